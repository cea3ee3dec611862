/- Layer 2: the reference's rounding: a search over all indices. -/
import Derived.Test.YtogfiekbikechaaGreatDoorGs
namespace Go.Proofs.YtogfiekbikechaaGreatDoor
open Go.ChangeShapes Go.WideShapes Go.ChangeAt Go.RowKit

theorem mid_way {lo hi : Nat} (h : lo < hi) (ht : hi ≤ 2533359616) : ∃ S m : Nat, (lo + hi) / 2 = m ∧ m ≤ 2533359615 ∧ lo ≤ m ∧ m < hi ∧ IntKind.i64.wrap ((lo : Int) + hi) = (S : Int) ∧ wrap64 ((lo : Int) + hi) = (S : Int) ∧ (S : Int).tdiv 2 = (m : Int) ∧ wrap64 (m : Int) = (m : Int) ∧ IntKind.i64.wrap (m : Int) = (m : Int) ∧
    IntKind.i64.wrap ((m : Int) + 1) = ((m + 1 : Nat) : Int) ∧ wrap64 ((m : Int) + 1) = ((m + 1 : Nat) : Int) := by
  refine ⟨lo + hi, (lo + hi) / 2, rfl, by omega, by omega, by omega, ?_, ?_, ?_, ?_, ?_, ?_, ?_⟩
  · rw [IntWalk.i64_in _ ⟨by omega, by omega⟩]; omega
  · unfold wrap64; omega
  · rw [Int.tdiv_eq_ediv_of_nonneg (by omega)]; omega
  · unfold wrap64; omega
  · exact IntWalk.i64_in _ ⟨by omega, by omega⟩
  · rw [IntWalk.i64_in _ ⟨by omega, by omega⟩]; omega
  · unfold wrap64; omega
theorem less_lo {lo hi m : Nat} (h : m < hi) (h2 : lo ≤ m) : ((hi : Int) - ((m + 1 : Nat) : Int)).toNat < ((hi : Int) - (lo : Int)).toNat := by omega
theorem less_hi {lo hi m : Nat} (h : m < hi) (h2 : lo ≤ m) : ((m : Int) - (lo : Int)).toNat < ((hi : Int) - (lo : Int)).toNat := by omega
theorem at_walk {r : Nat} (h : r ≤ 2533359615) : Ret 12 #[.int .i64 (r : Int)] (.agg #[.int .i64 (atV r).1, .int .i64 (atV r).2]) := rat_any (by omega) (by omega)
theorem at_par {r : Nat} (h : r ≤ 2533359615) : (atV r).1.tmod 2 = ((r % 2 : Nat) : Int) := by
  obtain ⟨M, X, he, _, _, _, _, hp⟩ := at_parts h
  rw [he]
  show ((M : Nat) : Int).tmod 2 = _
  rw [Int.tmod_eq_emod_of_nonneg (by omega)]; omega
/-- A quotient in a block. -/
structure Qb (w : World) (b : Nat) (s : Bool) (v1 v2 : Value) : Prop where
  c0 : w.cell? ⟨b, 0, none⟩ = some (.bool s)
  c1 : w.cell? ⟨b, 1, none⟩ = some v1
  c2 : w.cell? ⟨b, 2, none⟩ = some v2
  lt : b < w.heap.size
theorem Qb.later {w w' : World} {b : Nat} {s : Bool} {v1 v2 : Value} (h : Qb w b s v1 v2) (hx : Ext w w') : Qb w' b s v1 v2 :=
  ⟨(hx.cell 0 h.lt).trans h.c0, (hx.cell 1 h.lt).trans h.c1, (hx.cell 2 h.lt).trans h.c2, Nat.lt_of_lt_of_le h.lt hx.size⟩
/-- A result that is still zero. -/
structure Zb (w : World) (b : Nat) : Prop where
  c0 : w.cell? ⟨b, 0, none⟩ = some (.int .i64 0)
  c1 : w.cell? ⟨b, 1, none⟩ = some (.int .i64 0)
  c2 : w.cell? ⟨b, 2, none⟩ = some (.bool false)
  fz : ∀ j, w.frozen? ⟨b, j, none⟩ = false
  lt : b < w.heap.size
theorem Zb.later {w w' : World} {b : Nat} (h : Zb w b) (hx : Ext w w') : Zb w' b :=
  ⟨(hx.cell 0 h.lt).trans h.c0, (hx.cell 1 h.lt).trans h.c1, (hx.cell 2 h.lt).trans h.c2, fun j => (hx.froz j h.lt).trans (h.fz j), Nat.lt_of_lt_of_le h.lt hx.size⟩
/-- The search's last index, and what is to be returned. -/
theorem seek_end {P D lo r : Nat} (hD : 0 < D) (h : Seek P D lo lo) (hn : Near P D r) : (2533359615 < lo ∧ 2533359615 < r) ∨ (lo ≤ 2533359615 ∧ midN lo * D ≠ P ∧ r = lo) ∨ (lo ≤ 2533359615 ∧ midN lo * D = P ∧ lo % 2 = 0 ∧ r = lo) ∨ (lo ≤ 2533359615 ∧ midN lo * D = P ∧ lo % 2 = 1 ∧ r = lo + 1) := by
  by_cases h1 : lo ≤ 2533359615
  · right
    by_cases h2 : midN lo * D = P
    · right
      by_cases h3 : lo % 2 = 0
      · exact .inl ⟨h1, h2, h3, seek_lt hD h hn h1 (.inr h3)⟩
      · exact .inr ⟨h1, h2, by omega, seek_tie hD hn h2 (by omega)⟩
    · exact .inl ⟨h1, h2, seek_lt hD h hn h1 (.inl h2)⟩
  · exact .inl ⟨by omega, seek_far h hn (by omega)⟩
theorem ncmp_eq {n m : Nat} {c : Int} {v u : Value} {w : World} (h : IsNat w v n) (k : IsNat w u m) (hc : cmpI n m = c) : Calls Tryz.prog 66 #[v, u] w fun e w' => e = .returned (.int .i64 c) ∧ Ext w w' := by
  have := ncmp_any h k
  rwa [hc] at this
theorem Seek.low' {P D lo hi m : Nat} (h : Seek P D lo hi) (hl : lo < hi) (hm : (lo + hi) / 2 = m) (c : P ≤ midN m * D) : Seek P D lo m := by subst hm; exact h.low hl c
theorem Seek.high' {P D lo hi m : Nat} (h : Seek P D lo hi) (hl : lo < hi) (hm : (lo + hi) / 2 = m) (c : ¬ P ≤ midN m * D) : Seek P D (m + 1) hi := by subst hm; exact h.high hl c
theorem neg_wrap {r : Nat} {N : Int} (h : r ≤ 2533359615) (hN : N = -(r : Int)) : IntKind.i64.wrap (0 - (r : Int)) = N ∧ wrap64 (0 - (r : Int)) = N ∧ IntKind.i64.wrap (-(r : Int)) = N ∧ wrap64 (-(r : Int)) = N := by
  subst hN
  exact ⟨by rw [Int.zero_sub]; exact IntWalk.i64_in _ ⟨by omega, by omega⟩, by unfold wrap64; omega, IntWalk.i64_in _ ⟨by omega, by omega⟩, by unfold wrap64; omega⟩
theorem at_negR {r : Nat} {N : Int} (h : r ≤ 2533359615) (hN : N = -(r : Int)) : Ret 12 #[.int .i64 N] (.agg #[.int .i64 (atV N).1, .int .i64 (atV N).2]) := rat_any (by omega) (by omega)
theorem field0 (a b : Int) (u : World) : (Instr.field 23 (.agg #[.int .i64 a, .int .i64 b]) 0).run Tryz.prog u = .ok (.int .i64 a) u := by kernel_rfl
theorem not_eq_false {c : Int} (h : ¬ c = 0) : (c == 0) = false := by simpa using h
theorem next_bd {r : Nat} (h : ¬ 2533359615 < r) : ¬ (r : Int) > 2533359615 := by omega
theorem next_bd2 {r : Nat} (h : 2533359615 < r) : (r : Int) > 2533359615 := by omega
theorem next_wrap {r : Nat} (h : r ≤ 2533359615) : IntKind.i64.wrap ((r : Int) + 1) = ((r + 1 : Nat) : Int) ∧ wrap64 ((r : Int) + 1) = ((r + 1 : Nat) : Int) := ⟨by rw [IntWalk.i64_in _ ⟨by omega, by omega⟩]; omega, by unfold wrap64; omega⟩
set_option maxRecDepth 100000 in
set_option maxHeartbeats 4000000 in
theorem round_nat (s : Bool) (a1 a2 : Option Addr) (L1 C1 L2 C2 n d r P : Nat) (w : World) (h1 : IsNat w (.slice a1 L1 C1) n) (h2 : IsNat w (.slice a2 L2 C2) d) (hd : 0 < d) (hP : P = n * tw 151) (hf : Fits P) (hfd : ∀ r, r ≤ 2533359615 → Fits (midN r * d)) (hr : Near P d r) :
    Calls Tryz.prog 55 #[.agg #[.bool s, .slice a1 L1 C1, .slice a2 L2 C2]] w fun e w' => e = .returned (rndV (resI s r)) ∧ Ext w w' := by
  have H1 := Lib.hid h1
  have H2 := Lib.hid h2
  have HF := Lib.hid hf
  have HFD := Lib.hid hfd
  have HSE := Lib.hid (fun lo (h : Seek P d lo lo) => seek_end hd h hr)
  have HP := Lib.hid hP
  clear h1 h2 hf hfd hd hr hP
  go_enter Tryz.func55, Tryz.ntmps55
  go_upto_region 1 with (fail)
  have X0 : Hid (Ext w ((w.alloc (.cells #[.bool s, .slice a1 L1 C1, .slice a2 L2 C2] 73)).alloc (.cells #[.int .i64 0, .int .i64 0, .bool false] 43))) := Lib.hid (((Ext.refl w).alloc _).alloc _)
  have QB : Hid (Qb ((w.alloc (.cells #[.bool s, .slice a1 L1 C1, .slice a2 L2 C2] 73)).alloc (.cells #[.int .i64 0, .int .i64 0, .bool false] 43)) w.heap.size s (.slice a1 L1 C1) (.slice a2 L2 C2)) := Lib.hid ⟨by simp [go_sem], by simp [go_sem], by simp [go_sem], by simp [go_sem]⟩
  have ZB : Hid (Zb ((w.alloc (.cells #[.bool s, .slice a1 L1 C1, .slice a2 L2 C2] 73)).alloc (.cells #[.int .i64 0, .int .i64 0, .bool false] 43)) (w.heap.size + 1)) := Lib.hid ⟨by simp [go_sem], by simp [go_sem], by simp [go_sem], fun j => by simp [go_sem], by simp [go_sem]⟩
  generalize ((w.alloc (.cells #[.bool s, .slice a1 L1 C1, .slice a2 L2 C2] 73)).alloc (.cells #[.int .i64 0, .int .i64 0, .bool false] 43)) = W at *
  have S151 := Lib.hid (ntwo_any 151 (by omega))
  rw [show ((151 : Nat) : Int) = 151 from rfl] at S151
  refine wp_region_S (fun uu : World => Ext W uu) 4 (by kernel_rfl) ?_
  have HS : Ext W W.drew := (Ext.refl W).drew
  refine GoS.pure (i := 0) (v := ?_) rfl (by kernel_rfl) (by kernel_rfl) (by kernel_rfl) (by kernel_rfl) (fun _ _ _ h => h) (Or.inl ⟨by rfl, ?hy1⟩) (fun _ => HS) ?_
  case hy1 => ((intro u' hT; go_simp); try with_reducible rfl)
  try simp only [List.getElem_toArray, List.getElem_cons_zero, Act.put, List.setIfInBounds_toArray, List.set_cons_zero, List.set_cons_succ]
  refine GoS.take (i := 1) (v := ?_) rfl (by kernel_rfl) (by kernel_rfl) (by kernel_rfl) (by kernel_rfl) (fun _ _ _ h => h) (Or.inl ⟨by rfl, ?hy2⟩) HS ?_
  case hy2 => ((intro u' hT; have d1 := (QB.out.later hT).c1; go_simp); try with_reducible rfl)
  try simp only [List.getElem_toArray, List.getElem_cons_succ, List.getElem_cons_zero, Act.put, List.setIfInBounds_toArray, List.set_cons_zero, List.set_cons_succ]
  refine GoS.one (i := 2) (by kernel_rfl) rfl (fun K hK => ?_)
  go_simp
  (with_reducible refine (S151.out _).mono ?_)
  rintro e q3 ⟨v, rfl, hv, hx⟩
  have HS2 := HS.trans hx; clear HS; have HS := HS2; clear HS2 hx
  go_wp2_with fail
  refine hK.out _ _ HS (fun _ => ?_)
  clear hK K
  try simp only [List.getElem_toArray, List.getElem_cons_succ, List.getElem_cons_zero, Act.put, List.setIfInBounds_toArray, List.set_cons_zero, List.set_cons_succ]
  have V := Lib.hid hv; clear hv
  refine GoS.one (i := 3) (by kernel_rfl) rfl (fun K hK => ?_)
  go_simp
  (with_reducible refine (nmul_any (H1.out.later (X0.out.trans HS)) V.out (by have := HF.out; rwa [HP.out] at this)).mono ?_)
  rintro e q4 ⟨v2, rfl, hv, hx⟩
  have HS2 := HS.trans hx; clear HS; have HS := HS2; clear HS2 hx
  go_wp2_with fail
  refine hK.out _ _ HS (fun _ => ?_)
  clear hK K
  try simp only [List.getElem_toArray, List.getElem_cons_succ, List.getElem_cons_zero, Act.put, List.setIfInBounds_toArray, List.set_cons_zero, List.set_cons_succ]
  have V2 := Lib.hid hv; clear hv V
  refine GoS.store (i := 4) (by kernel_rfl) rfl (by kernel_rfl) (fun K hK => ?_)
  go_simp
  refine hK.out _ _ ?_
  clear hK K
  try simp only [List.getElem_toArray, List.getElem_cons_succ, List.getElem_cons_zero, Act.put, List.setIfInBounds_toArray, List.set_cons_zero, List.set_cons_succ]
  refine GoS.done (by kernel_rfl) ?_
  rw [← HP.out] at V2
  obtain ⟨a3, L3, C3, rfl⟩ := V2.out.shape
  have X1 := Lib.hid (X0.out.trans HS)
  have QB1 := Lib.hid (QB.out.later HS)
  have ZB1 := Lib.hid (ZB.out.later HS)
  have N2 := Lib.hid (H2.out.later X1.out)
  clear HS QB ZB X0 H1 H2 HP S151
  generalize q4 = W1 at *
  
  go_wp2
  go_loopw [4, 5] (fun a b u => ∃ (u2 : World) (lo hi : Nat), u2 = u ∧ a = .int .i64 (lo : Int) ∧ b = .int .i64 (hi : Int) ∧ Hid (Seek P d lo hi) ∧ Hid (Ext W1 u2)) (fun a b _ => (intOf b - intOf a).toNat)
  case atStart => exact ⟨_, 0, 2533359616, rfl, rfl, rfl, Lib.hid (Seek.start P d), Lib.hid (Ext.refl _)⟩
  case round =>
    obtain ⟨u, lo, hi, hu, rfl, rfl, SK, XU⟩ := hrel
    subst hu
    have QU := Lib.hid (QB1.out.later XU.out)
    have ZU := Lib.hid (ZB1.out.later XU.out)
    have VU := Lib.hid (V2.out.later XU.out)
    have NU := Lib.hid (N2.out.later XU.out)
    have XA := Lib.hid (X1.out.trans XU.out)
    by_cases hlt : lo < hi
    · have g1 : (lo : Int) < (hi : Int) := Int.ofNat_lt.2 hlt
      obtain ⟨S, m, hm, bm, l1, l2, t1, t2, t3, t4, t5, t6, t7⟩ := mid_way hlt SK.out.top
      have M1 := Lib.hid (less_lo l2 l1)
      have M2 := Lib.hid (less_hi l2 l1)
      have HM := Lib.hid hm
      have BM := Lib.hid bm
      have HLT := Lib.hid hlt
      obtain ⟨c, hc⟩ : ∃ c, cmpI (midN m * d : Nat) P = c := ⟨_, rfl⟩
      have CG : Hid ((c ≥ 0) = (P ≤ midN m * d)) := Lib.hid (by rw [← hc]; exact cmpI_ge)
      have HC := Lib.hid hc
      clear hlt hm bm l1 l2 hc
      by_cases hcg : c ≥ 0
      · have hle := Lib.hid (by have := hcg; rwa [CG.out] at this : P ≤ midN m * d)
        go_upto_region 6 with (fail)
        refine wp_region_S (fun uu : World => Ext u uu) 7 (by kernel_rfl) ?_
        have HS : Ext u u.drew := (Ext.refl u).drew
        refine GoS.pure (i := 0) (v := ?_) rfl (by kernel_rfl) (by kernel_rfl) (by kernel_rfl) (by kernel_rfl) (fun _ _ _ h => h) (Or.inl ⟨by rfl, ?hy5⟩) (fun _ => HS) ?_
        case hy5 => ((intro u' hT; go_simp); try with_reducible rfl)
        try simp only [List.getElem_toArray, List.getElem_cons_zero, Act.put, List.setIfInBounds_toArray, List.set_cons_zero, List.set_cons_succ]
        refine GoS.pure (i := 2) (v := ?_) rfl (by kernel_rfl) (by kernel_rfl) (by kernel_rfl) (by kernel_rfl) (fun _ _ _ h => h) (Or.inl ⟨by rfl, ?hy6⟩) (fun _ => HS) ?_
        case hy6 => ((intro u' hT; go_simp); try with_reducible rfl)
        try simp only [List.getElem_toArray, List.getElem_cons_succ, List.getElem_cons_zero, Act.put, List.setIfInBounds_toArray, List.set_cons_zero, List.set_cons_succ]
        refine GoS.take (i := 3) (v := ?_) rfl (by kernel_rfl) (by kernel_rfl) (by kernel_rfl) (by kernel_rfl) (fun _ _ _ h => h) (Or.inl ⟨by rfl, ?hy7⟩) HS ?_
        case hy7 => ((intro u' hT; have d1 := (QU.out.later hT).c2; go_simp); try with_reducible rfl)
        try simp only [List.getElem_toArray, List.getElem_cons_succ, List.getElem_cons_zero, Act.put, List.setIfInBounds_toArray, List.set_cons_zero, List.set_cons_succ]
        refine GoS.pure (i := 5) (v := ?_) rfl (by kernel_rfl) (by kernel_rfl) (by kernel_rfl) (by kernel_rfl) (fun _ _ _ h => h) (Or.inl ⟨by rfl, ?hy8⟩) (fun _ => HS) ?_
        case hy8 => ((intro u' hT; go_simp); try with_reducible rfl)
        try simp only [List.getElem_toArray, List.getElem_cons_succ, List.getElem_cons_zero, Act.put, List.setIfInBounds_toArray, List.set_cons_zero, List.set_cons_succ]
        refine GoS.one (i := 1) (by kernel_rfl) rfl (fun K hK => ?_)
        go_simp
        (with_reducible refine (half_any BM.out _).mono ?_)
        rintro e q9 ⟨v3, rfl, hv, hx⟩
        have HS2 := HS.trans hx; clear HS; have HS := HS2; clear HS2 hx
        go_wp2_with fail
        refine hK.out _ _ HS (fun _ => ?_)
        clear hK K
        try simp only [List.getElem_toArray, List.getElem_cons_succ, List.getElem_cons_zero, Act.put, List.setIfInBounds_toArray, List.set_cons_zero, List.set_cons_succ]
        have V3 := Lib.hid hv; clear hv
        refine GoS.one (i := 4) (by kernel_rfl) rfl (fun K hK => ?_)
        go_simp
        (with_reducible refine (nmul_any V3.out (NU.out.later HS) (HFD.out m BM.out)).mono ?_)
        rintro e q10 ⟨v4, rfl, hv, hx⟩
        have HS2 := HS.trans hx; clear HS; have HS := HS2; clear HS2 hx
        go_wp2_with fail
        refine hK.out _ _ HS (fun _ => ?_)
        clear hK K
        try simp only [List.getElem_toArray, List.getElem_cons_succ, List.getElem_cons_zero, Act.put, List.setIfInBounds_toArray, List.set_cons_zero, List.set_cons_succ]
        have V4 := Lib.hid hv; clear hv V3
        refine GoS.one (i := 6) (by kernel_rfl) rfl (fun K hK => ?_)
        go_simp
        (with_reducible refine (ncmp_eq V4.out (VU.out.later HS) HC.out).mono ?_)
        rintro e q11 ⟨rfl, hx⟩
        have HS2 := HS.trans hx; clear HS; have HS := HS2; clear HS2 hx
        go_wp2_with fail
        refine hK.out _ _ HS (fun _ => ?_)
        clear hK K
        try simp only [List.getElem_toArray, List.getElem_cons_succ, List.getElem_cons_zero, Act.put, List.setIfInBounds_toArray, List.set_cons_zero, List.set_cons_succ]
        refine GoS.store (i := 7) (by kernel_rfl) rfl (by kernel_rfl) (fun K hK => ?_)
        go_simp
        refine hK.out _ _ ?_
        clear hK K
        try simp only [List.getElem_toArray, List.getElem_cons_succ, List.getElem_cons_zero, Act.put, List.setIfInBounds_toArray, List.set_cons_zero, List.set_cons_succ]
        refine GoS.done (by kernel_rfl) ?_
        generalize q11 = u9 at *
        go_wp2
        go_roundw
        case rel => exact ⟨_, lo, m, rfl, rfl, rfl, Lib.hid (SK.out.low' HLT.out HM.out hle.out), Lib.hid (XU.out.trans HS)⟩
        case measure => first | exact M2.out | (simp [intOf]; have := M2.out; omega)
      · have hle := Lib.hid (by have := hcg; rwa [CG.out] at this : ¬ P ≤ midN m * d)
        go_upto_region 6 with (fail)
        refine wp_region_S (fun uu : World => Ext u uu) 7 (by kernel_rfl) ?_
        have HS : Ext u u.drew := (Ext.refl u).drew
        refine GoS.pure (i := 0) (v := ?_) rfl (by kernel_rfl) (by kernel_rfl) (by kernel_rfl) (by kernel_rfl) (fun _ _ _ h => h) (Or.inl ⟨by rfl, ?hy12⟩) (fun _ => HS) ?_
        case hy12 => ((intro u' hT; go_simp); try with_reducible rfl)
        try simp only [List.getElem_toArray, List.getElem_cons_zero, Act.put, List.setIfInBounds_toArray, List.set_cons_zero, List.set_cons_succ]
        refine GoS.pure (i := 2) (v := ?_) rfl (by kernel_rfl) (by kernel_rfl) (by kernel_rfl) (by kernel_rfl) (fun _ _ _ h => h) (Or.inl ⟨by rfl, ?hy13⟩) (fun _ => HS) ?_
        case hy13 => ((intro u' hT; go_simp); try with_reducible rfl)
        try simp only [List.getElem_toArray, List.getElem_cons_succ, List.getElem_cons_zero, Act.put, List.setIfInBounds_toArray, List.set_cons_zero, List.set_cons_succ]
        refine GoS.take (i := 3) (v := ?_) rfl (by kernel_rfl) (by kernel_rfl) (by kernel_rfl) (by kernel_rfl) (fun _ _ _ h => h) (Or.inl ⟨by rfl, ?hy14⟩) HS ?_
        case hy14 => ((intro u' hT; have d1 := (QU.out.later hT).c2; go_simp); try with_reducible rfl)
        try simp only [List.getElem_toArray, List.getElem_cons_succ, List.getElem_cons_zero, Act.put, List.setIfInBounds_toArray, List.set_cons_zero, List.set_cons_succ]
        refine GoS.pure (i := 5) (v := ?_) rfl (by kernel_rfl) (by kernel_rfl) (by kernel_rfl) (by kernel_rfl) (fun _ _ _ h => h) (Or.inl ⟨by rfl, ?hy15⟩) (fun _ => HS) ?_
        case hy15 => ((intro u' hT; go_simp); try with_reducible rfl)
        try simp only [List.getElem_toArray, List.getElem_cons_succ, List.getElem_cons_zero, Act.put, List.setIfInBounds_toArray, List.set_cons_zero, List.set_cons_succ]
        refine GoS.one (i := 1) (by kernel_rfl) rfl (fun K hK => ?_)
        go_simp
        (with_reducible refine (half_any BM.out _).mono ?_)
        rintro e q16 ⟨v3, rfl, hv, hx⟩
        have HS2 := HS.trans hx; clear HS; have HS := HS2; clear HS2 hx
        go_wp2_with fail
        refine hK.out _ _ HS (fun _ => ?_)
        clear hK K
        try simp only [List.getElem_toArray, List.getElem_cons_succ, List.getElem_cons_zero, Act.put, List.setIfInBounds_toArray, List.set_cons_zero, List.set_cons_succ]
        have V3 := Lib.hid hv; clear hv
        refine GoS.one (i := 4) (by kernel_rfl) rfl (fun K hK => ?_)
        go_simp
        (with_reducible refine (nmul_any V3.out (NU.out.later HS) (HFD.out m BM.out)).mono ?_)
        rintro e q17 ⟨v4, rfl, hv, hx⟩
        have HS2 := HS.trans hx; clear HS; have HS := HS2; clear HS2 hx
        go_wp2_with fail
        refine hK.out _ _ HS (fun _ => ?_)
        clear hK K
        try simp only [List.getElem_toArray, List.getElem_cons_succ, List.getElem_cons_zero, Act.put, List.setIfInBounds_toArray, List.set_cons_zero, List.set_cons_succ]
        have V4 := Lib.hid hv; clear hv V3
        refine GoS.one (i := 6) (by kernel_rfl) rfl (fun K hK => ?_)
        go_simp
        (with_reducible refine (ncmp_eq V4.out (VU.out.later HS) HC.out).mono ?_)
        rintro e q18 ⟨rfl, hx⟩
        have HS2 := HS.trans hx; clear HS; have HS := HS2; clear HS2 hx
        go_wp2_with fail
        refine hK.out _ _ HS (fun _ => ?_)
        clear hK K
        try simp only [List.getElem_toArray, List.getElem_cons_succ, List.getElem_cons_zero, Act.put, List.setIfInBounds_toArray, List.set_cons_zero, List.set_cons_succ]
        refine GoS.store (i := 7) (by kernel_rfl) rfl (by kernel_rfl) (fun K hK => ?_)
        go_simp
        refine hK.out _ _ ?_
        clear hK K
        try simp only [List.getElem_toArray, List.getElem_cons_succ, List.getElem_cons_zero, Act.put, List.setIfInBounds_toArray, List.set_cons_zero, List.set_cons_succ]
        refine GoS.done (by kernel_rfl) ?_
        generalize q18 = u9 at *
        go_wp2
        go_roundw
        case rel => exact ⟨_, m + 1, hi, rfl, by first | rfl | go_num, rfl, Lib.hid (SK.out.high' HLT.out HM.out hle.out), Lib.hid (XU.out.trans HS)⟩
        case measure => first | exact M1.out | (simp [intOf]; have := M1.out; omega)
    · have e : lo = hi := Nat.le_antisymm SK.out.le (Nat.le_of_not_lt hlt)
      subst e
      have g1 : ¬ (lo : Int) < (lo : Int) := Int.lt_irrefl _
      have HCA := HSE.out lo SK.out
      clear hlt SK HSE QB1 ZB1 V2 N2 X1 XU
      rcases HCA with ⟨c1, c2⟩ | ⟨c1, c2, c3⟩ | ⟨c1, c2, c4, c3⟩ | ⟨c1, c2, c4, c3⟩
      · have g2 := next_bd2 c1
        have z0 := ZU.out.c0; have z1 := ZU.out.c1; have z2 := ZU.out.c2; have zf := ZU.out.fz
        have ER := Lib.hid (@rnd_far s r c2)
        clear c1 c2
        go_wp2
        rw [ER.out]
        refine bodyPost_ret (v := .agg #[.int .i64 0, .int .i64 0, .bool false]) ?_ rfl ⟨rfl, ?_⟩
        · simp [results, Tryz.results55, go_sem, z0, z1, z2]
        · repeat (first | with_reducible exact XA.out | with_reducible refine Ext.alloc ?_ _ | with_reducible refine Ext.setCell ?_ (by simp) _)
      · have HR := Lib.hid c3
        obtain ⟨c, hc⟩ : ∃ c, cmpI (midN lo * d : Nat) P = c := ⟨_, rfl⟩
        have HC := Lib.hid hc
        have BM := Lib.hid c1
        have k1 := not_eq_false (fun h => c2 (cmpI_zero.1 (hc.trans h)) : ¬ c = 0)
        have g2 := next_bd (Nat.not_lt.2 c1)
        clear c1 c2 c3 hc
        go_upto_region 11 with (fail)
        refine wp_region_S (fun uu : World => Ext u uu) 14 (by kernel_rfl) ?_
        have HS : Ext u u.drew := (Ext.refl u).drew
        refine GoS.pure (i := 0) (v := ?_) rfl (by kernel_rfl) (by kernel_rfl) (by kernel_rfl) (by kernel_rfl) (fun _ _ _ h => h) (Or.inl ⟨by rfl, ?hy19⟩) (fun _ => HS) ?_
        case hy19 => ((intro u' hT; go_simp); try with_reducible rfl)
        try simp only [List.getElem_toArray, List.getElem_cons_zero, Act.put, List.setIfInBounds_toArray, List.set_cons_zero, List.set_cons_succ]
        refine GoS.pure (i := 2) (v := ?_) rfl (by kernel_rfl) (by kernel_rfl) (by kernel_rfl) (by kernel_rfl) (fun _ _ _ h => h) (Or.inl ⟨by rfl, ?hy20⟩) (fun _ => HS) ?_
        case hy20 => ((intro u' hT; go_simp); try with_reducible rfl)
        try simp only [List.getElem_toArray, List.getElem_cons_succ, List.getElem_cons_zero, Act.put, List.setIfInBounds_toArray, List.set_cons_zero, List.set_cons_succ]
        refine GoS.take (i := 3) (v := ?_) rfl (by kernel_rfl) (by kernel_rfl) (by kernel_rfl) (by kernel_rfl) (fun _ _ _ h => h) (Or.inl ⟨by rfl, ?hy21⟩) HS ?_
        case hy21 => ((intro u' hT; have d1 := (QU.out.later hT).c2; go_simp); try with_reducible rfl)
        try simp only [List.getElem_toArray, List.getElem_cons_succ, List.getElem_cons_zero, Act.put, List.setIfInBounds_toArray, List.set_cons_zero, List.set_cons_succ]
        refine GoS.pure (i := 5) (v := ?_) rfl (by kernel_rfl) (by kernel_rfl) (by kernel_rfl) (by kernel_rfl) (fun _ _ _ h => h) (Or.inl ⟨by rfl, ?hy22⟩) (fun _ => HS) ?_
        case hy22 => ((intro u' hT; go_simp); try with_reducible rfl)
        try simp only [List.getElem_toArray, List.getElem_cons_succ, List.getElem_cons_zero, Act.put, List.setIfInBounds_toArray, List.set_cons_zero, List.set_cons_succ]
        refine GoS.one (i := 1) (by kernel_rfl) rfl (fun K hK => ?_)
        go_simp
        (with_reducible refine (half_any BM.out _).mono ?_)
        rintro e q23 ⟨v3, rfl, hv, hx⟩
        have HS2 := HS.trans hx; clear HS; have HS := HS2; clear HS2 hx
        go_wp2_with fail
        refine hK.out _ _ HS (fun _ => ?_)
        clear hK K
        try simp only [List.getElem_toArray, List.getElem_cons_succ, List.getElem_cons_zero, Act.put, List.setIfInBounds_toArray, List.set_cons_zero, List.set_cons_succ]
        have V3 := Lib.hid hv; clear hv
        refine GoS.one (i := 4) (by kernel_rfl) rfl (fun K hK => ?_)
        go_simp
        (with_reducible refine (nmul_any V3.out (NU.out.later HS) (HFD.out lo BM.out)).mono ?_)
        rintro e q24 ⟨v4, rfl, hv, hx⟩
        have HS2 := HS.trans hx; clear HS; have HS := HS2; clear HS2 hx
        go_wp2_with fail
        refine hK.out _ _ HS (fun _ => ?_)
        clear hK K
        try simp only [List.getElem_toArray, List.getElem_cons_succ, List.getElem_cons_zero, Act.put, List.setIfInBounds_toArray, List.set_cons_zero, List.set_cons_succ]
        have V4 := Lib.hid hv; clear hv V3
        refine GoS.one (i := 6) (by kernel_rfl) rfl (fun K hK => ?_)
        go_simp
        (with_reducible refine (ncmp_eq V4.out (VU.out.later HS) HC.out).mono ?_)
        rintro e q25 ⟨rfl, hx⟩
        have HS2 := HS.trans hx; clear HS; have HS := HS2; clear HS2 hx
        go_wp2_with fail
        refine hK.out _ _ HS (fun _ => ?_)
        clear hK K
        try simp only [List.getElem_toArray, List.getElem_cons_succ, List.getElem_cons_zero, Act.put, List.setIfInBounds_toArray, List.set_cons_zero, List.set_cons_succ]
        refine GoS.pure (i := 7) (v := ?_) rfl (by kernel_rfl) (by kernel_rfl) (by kernel_rfl) (by kernel_rfl) (fun _ _ _ h => h) (Or.inl ⟨by rfl, ?hy26⟩) (fun _ => HS) ?_
        case hy26 => ((intro u' hT; go_simp); try with_reducible rfl)
        try simp only [List.getElem_toArray, List.getElem_cons_succ, List.getElem_cons_zero, Act.put, List.setIfInBounds_toArray, List.set_cons_zero, List.set_cons_succ]
        refine GoS.pure (i := 8) (v := ?_) rfl (by kernel_rfl) (by kernel_rfl) (by kernel_rfl) (by kernel_rfl) (fun _ _ _ h => h) (Or.inl ⟨by rfl, ?hy27⟩) (fun _ => HS) ?_
        case hy27 => ((intro u' hT; go_simp); try with_reducible rfl)
        try simp only [List.getElem_toArray, List.getElem_cons_succ, List.getElem_cons_zero, Act.put, List.setIfInBounds_toArray, List.set_cons_zero, List.set_cons_succ]
        refine GoS.pure (i := 9) (v := _) rfl (by kernel_rfl) (by kernel_rfl) (by kernel_rfl) (by kernel_rfl) (fun _ _ _ h => h) (Or.inr ⟨by rfl, rfl⟩) (fun _ => HS) ?_
        try simp only [List.getElem_toArray, List.getElem_cons_succ, List.getElem_cons_zero, Act.put, List.setIfInBounds_toArray, List.set_cons_zero, List.set_cons_succ]
        refine GoS.pure (i := 10) (v := _) rfl (by kernel_rfl) (by kernel_rfl) (by kernel_rfl) (by kernel_rfl) (fun _ _ _ h => h) (Or.inr ⟨by rfl, rfl⟩) (fun _ => HS) ?_
        try simp only [List.getElem_toArray, List.getElem_cons_succ, List.getElem_cons_zero, Act.put, List.setIfInBounds_toArray, List.set_cons_zero, List.set_cons_succ]
        refine GoS.pure (i := 11) (v := _) rfl (by kernel_rfl) (by kernel_rfl) (by kernel_rfl) (by kernel_rfl) (fun _ _ _ h => h) (Or.inr ⟨by rfl, rfl⟩) (fun _ => HS) ?_
        try simp only [List.getElem_toArray, List.getElem_cons_succ, List.getElem_cons_zero, Act.put, List.setIfInBounds_toArray, List.set_cons_zero, List.set_cons_succ]
        refine GoS.pure (i := 12) (v := _) rfl (by kernel_rfl) (by kernel_rfl) (by kernel_rfl) (by kernel_rfl) (fun _ _ _ h => h) (Or.inr ⟨by rfl, rfl⟩) (fun _ => HS) ?_
        try simp only [List.getElem_toArray, List.getElem_cons_succ, List.getElem_cons_zero, Act.put, List.setIfInBounds_toArray, List.set_cons_zero, List.set_cons_succ]
        refine GoS.pure (i := 13) (v := _) rfl (by kernel_rfl) (by kernel_rfl) (by kernel_rfl) (by kernel_rfl) (fun _ _ _ h => h) (Or.inr ⟨by rfl, rfl⟩) (fun _ => HS) ?_
        try simp only [List.getElem_toArray, List.getElem_cons_succ, List.getElem_cons_zero, Act.put, List.setIfInBounds_toArray, List.set_cons_zero, List.set_cons_succ]
        refine GoS.store (i := 14) (by kernel_rfl) rfl (by kernel_rfl) (fun K hK => ?_)
        go_simp
        refine hK.out _ _ ?_
        clear hK K
        try simp only [List.getElem_toArray, List.getElem_cons_succ, List.getElem_cons_zero, Act.put, List.setIfInBounds_toArray, List.set_cons_zero, List.set_cons_succ]
        refine GoS.done (by kernel_rfl) ?_
        have QU2 := Lib.hid (QU.out.later HS); clear QU; have QU := QU2; clear QU2
        have ZU2 := Lib.hid (ZU.out.later HS); clear ZU; have ZU := ZU2; clear ZU2
        have XA2 := Lib.hid (XA.out.trans HS); clear XA; have XA := XA2; clear XA2
        clear HS V4 VU NU
        generalize q25 = u9 at *
  
        have ER := Lib.hid (@rnd_at s r (by rw [HR.out]; exact BM.out))
        rw [HR.out] at ER
        have AT := Lib.hid (@at_walk lo BM.out)
        obtain ⟨NR, hNR⟩ : ∃ NR : Int, NR = -((lo : Nat) : Int) := ⟨_, rfl⟩
        have AN : Hid (Ret 12 #[.int .i64 NR] (.agg #[.int .i64 (atV NR).1, .int .i64 (atV NR).2])) := Lib.hid (at_negR BM.out hNR)
        obtain ⟨y1, y2, y3, y4⟩ := @neg_wrap lo NR BM.out hNR
        cases s with
        | false =>
          have ER2 : Hid (rndV (resI false r) = .agg #[.int .i64 (atV ((lo : Nat) : Int)).1, .int .i64 (atV ((lo : Nat) : Int)).2, .bool true]) := Lib.hid (by rw [HR.out, ER.out]; rfl)
          generalize (atV ((lo : Nat) : Int)).1 = m at *
          generalize (atV ((lo : Nat) : Int)).2 = x at *
          clear y1 y2 y3 y4 hNR
          go_wp2_with fail
          refine (AT.out _).mono ?_
          rintro e w5 ⟨rfl, hx⟩
          have X5 := Lib.hid (XA.out.trans hx)
          have q0 : ∀ ob, (w5.alloc ob).cell? ⟨w.heap.size, 0, none⟩ = some (.bool false) := fun ob => (QU.out.later (hx.alloc ob)).c0
          have z0 : ∀ ob, (w5.alloc ob).cell? ⟨w.heap.size + 1, 0, none⟩ = some (.int .i64 0) := fun ob => (ZU.out.later (hx.alloc ob)).c0
          have z1 : ∀ ob, (w5.alloc ob).cell? ⟨w.heap.size + 1, 1, none⟩ = some (.int .i64 0) := fun ob => (ZU.out.later (hx.alloc ob)).c1
          have z2 : ∀ ob, (w5.alloc ob).cell? ⟨w.heap.size + 1, 2, none⟩ = some (.bool false) := fun ob => (ZU.out.later (hx.alloc ob)).c2
          have zf : ∀ ob j, (w5.alloc ob).frozen? ⟨w.heap.size + 1, j, none⟩ = false := fun ob => (ZU.out.later (hx.alloc ob)).fz
          have nz : w5.heap.size ≠ w.heap.size + 1 := Nat.ne_of_gt (ZU.out.later hx).lt
          have nz' : w.heap.size + 1 ≠ w5.heap.size := fun e => nz e.symm
          clear hx
          go_wp2
          rw [ER2.out]
          refine bodyPost_ret (v := .agg #[.int .i64 m, .int .i64 x, .bool true]) ?_ rfl ⟨rfl, ?_⟩
          · simp [results, Tryz.results55, go_sem, z0, z1, z2]
          · repeat (first | with_reducible exact X5.out | with_reducible refine Ext.alloc ?_ _ | with_reducible refine Ext.setCell ?_ (by simp) _)
        | true =>
          have ER2 : Hid (rndV (resI true r) = .agg #[.int .i64 (atV NR).1, .int .i64 (atV NR).2, .bool true]) := Lib.hid (by rw [HR.out, ER.out, hNR]; rfl)
          generalize (atV ((lo : Nat) : Int)).1 = m at *
          generalize (atV ((lo : Nat) : Int)).2 = x at *
          clear ER hNR
          generalize (atV NR).1 = m' at *
          generalize (atV NR).2 = x' at *
          go_wp2_with fail
          refine (AT.out _).mono ?_
          rintro e w5 ⟨rfl, hx⟩
          have X5 := Lib.hid (XA.out.trans hx)
          have q0 : ∀ ob, (w5.alloc ob).cell? ⟨w.heap.size, 0, none⟩ = some (.bool true) := fun ob => (QU.out.later (hx.alloc ob)).c0
          have ZX := Lib.hid (fun ob => ZU.out.later (hx.alloc ob))
          have L5 := Lib.hid (ZU.out.later hx).lt
          clear hx
          go_wp2_with fail
          refine (AN.out _).mono ?_
          rintro e w6 ⟨rfl, hx⟩
          have o0 : w6.cell? ⟨w5.heap.size, 0, none⟩ = some (.int .i64 m) := (hx.cell 0 (by simp)).trans (by simp [go_sem])
          have o1 : w6.cell? ⟨w5.heap.size, 1, none⟩ = some (.int .i64 x) := (hx.cell 1 (by simp)).trans (by simp [go_sem])
          have of : ∀ j, w6.frozen? ⟨w5.heap.size, j, none⟩ = false := fun j => (hx.froz j (by simp)).trans (by simp [go_sem])
          have Z6 := Lib.hid ((ZX.out _).later hx)
          have z0 := Z6.out.c0; have z1 := Z6.out.c1; have z2 := Z6.out.c2; have zf := Z6.out.fz
          have X6 := Lib.hid ((X5.out.alloc (.cells #[.int .i64 m, .int .i64 x] 23)).trans hx)
          have nz : w5.heap.size ≠ w.heap.size + 1 := Nat.ne_of_gt L5.out
          have nz' : w.heap.size + 1 ≠ w5.heap.size := fun e => nz e.symm
          have nw : w.heap.size ≤ w5.heap.size := X5.out.size
          clear hx
          go_wp2
          rw [ER2.out]
          refine bodyPost_ret (v := .agg #[.int .i64 m', .int .i64 x', .bool true]) ?_ rfl ⟨rfl, ?_⟩
          · simp [results, Tryz.results55, go_sem, z0, z1, z2]
          · repeat (first | with_reducible exact X6.out | with_reducible refine Ext.alloc ?_ _ | with_reducible refine Ext.setCell ?_ (by first | (simp; done) | exact nw) _)
      · have HR := Lib.hid c3
        have HC := Lib.hid (cmpI_zero.2 c2)
        have BM := Lib.hid c1
        have g2 := next_bd (Nat.not_lt.2 c1)
        have A1 := Lib.hid (at_walk c1)
        have HPAR := at_par c1
        rw [c4] at HPAR
        have hfld := field0
        generalize (atV (lo : Int)).1 = am at *
        generalize (atV (lo : Int)).2 = ax at *
        clear c1 c2 c3 c4
        go_upto_region 11 with (fail)
        refine wp_region_S (fun uu : World => Ext u uu) 14 (by kernel_rfl) ?_
        have HS : Ext u u.drew := (Ext.refl u).drew
        refine GoS.pure (i := 0) (v := ?_) rfl (by kernel_rfl) (by kernel_rfl) (by kernel_rfl) (by kernel_rfl) (fun _ _ _ h => h) (Or.inl ⟨by rfl, ?hy28⟩) (fun _ => HS) ?_
        case hy28 => ((intro u' hT; go_simp); try with_reducible rfl)
        try simp only [List.getElem_toArray, List.getElem_cons_zero, Act.put, List.setIfInBounds_toArray, List.set_cons_zero, List.set_cons_succ]
        refine GoS.pure (i := 2) (v := ?_) rfl (by kernel_rfl) (by kernel_rfl) (by kernel_rfl) (by kernel_rfl) (fun _ _ _ h => h) (Or.inl ⟨by rfl, ?hy29⟩) (fun _ => HS) ?_
        case hy29 => ((intro u' hT; go_simp); try with_reducible rfl)
        try simp only [List.getElem_toArray, List.getElem_cons_succ, List.getElem_cons_zero, Act.put, List.setIfInBounds_toArray, List.set_cons_zero, List.set_cons_succ]
        refine GoS.take (i := 3) (v := ?_) rfl (by kernel_rfl) (by kernel_rfl) (by kernel_rfl) (by kernel_rfl) (fun _ _ _ h => h) (Or.inl ⟨by rfl, ?hy30⟩) HS ?_
        case hy30 => ((intro u' hT; have d1 := (QU.out.later hT).c2; go_simp); try with_reducible rfl)
        try simp only [List.getElem_toArray, List.getElem_cons_succ, List.getElem_cons_zero, Act.put, List.setIfInBounds_toArray, List.set_cons_zero, List.set_cons_succ]
        refine GoS.pure (i := 5) (v := ?_) rfl (by kernel_rfl) (by kernel_rfl) (by kernel_rfl) (by kernel_rfl) (fun _ _ _ h => h) (Or.inl ⟨by rfl, ?hy31⟩) (fun _ => HS) ?_
        case hy31 => ((intro u' hT; go_simp); try with_reducible rfl)
        try simp only [List.getElem_toArray, List.getElem_cons_succ, List.getElem_cons_zero, Act.put, List.setIfInBounds_toArray, List.set_cons_zero, List.set_cons_succ]
        refine GoS.one (i := 1) (by kernel_rfl) rfl (fun K hK => ?_)
        go_simp
        (with_reducible refine (half_any BM.out _).mono ?_)
        rintro e q32 ⟨v3, rfl, hv, hx⟩
        have HS2 := HS.trans hx; clear HS; have HS := HS2; clear HS2 hx
        go_wp2_with fail
        refine hK.out _ _ HS (fun _ => ?_)
        clear hK K
        try simp only [List.getElem_toArray, List.getElem_cons_succ, List.getElem_cons_zero, Act.put, List.setIfInBounds_toArray, List.set_cons_zero, List.set_cons_succ]
        have V3 := Lib.hid hv; clear hv
        refine GoS.one (i := 4) (by kernel_rfl) rfl (fun K hK => ?_)
        go_simp
        (with_reducible refine (nmul_any V3.out (NU.out.later HS) (HFD.out lo BM.out)).mono ?_)
        rintro e q33 ⟨v4, rfl, hv, hx⟩
        have HS2 := HS.trans hx; clear HS; have HS := HS2; clear HS2 hx
        go_wp2_with fail
        refine hK.out _ _ HS (fun _ => ?_)
        clear hK K
        try simp only [List.getElem_toArray, List.getElem_cons_succ, List.getElem_cons_zero, Act.put, List.setIfInBounds_toArray, List.set_cons_zero, List.set_cons_succ]
        have V4 := Lib.hid hv; clear hv V3
        refine GoS.one (i := 6) (by kernel_rfl) rfl (fun K hK => ?_)
        go_simp
        (with_reducible refine (ncmp_eq V4.out (VU.out.later HS) HC.out).mono ?_)
        rintro e q34 ⟨rfl, hx⟩
        have HS2 := HS.trans hx; clear HS; have HS := HS2; clear HS2 hx
        go_wp2_with fail
        refine hK.out _ _ HS (fun _ => ?_)
        clear hK K
        try simp only [List.getElem_toArray, List.getElem_cons_succ, List.getElem_cons_zero, Act.put, List.setIfInBounds_toArray, List.set_cons_zero, List.set_cons_succ]
        refine GoS.pure (i := 7) (v := ?_) rfl (by kernel_rfl) (by kernel_rfl) (by kernel_rfl) (by kernel_rfl) (fun _ _ _ h => h) (Or.inl ⟨by rfl, ?hy35⟩) (fun _ => HS) ?_
        case hy35 => ((intro u' hT; go_simp); try with_reducible rfl)
        try simp only [List.getElem_toArray, List.getElem_cons_succ, List.getElem_cons_zero, Act.put, List.setIfInBounds_toArray, List.set_cons_zero, List.set_cons_succ]
        refine GoS.pure (i := 8) (v := ?_) rfl (by kernel_rfl) (by kernel_rfl) (by kernel_rfl) (by kernel_rfl) (fun _ _ _ h => h) (Or.inl ⟨by rfl, ?hy36⟩) (fun _ => HS) ?_
        case hy36 => ((intro u' hT; go_simp); try with_reducible rfl)
        try simp only [List.getElem_toArray, List.getElem_cons_succ, List.getElem_cons_zero, Act.put, List.setIfInBounds_toArray, List.set_cons_zero, List.set_cons_succ]
        refine GoS.pure (i := 9) (v := ?_) rfl (by kernel_rfl) (by kernel_rfl) (by kernel_rfl) (by kernel_rfl) (fun _ _ _ h => h) (Or.inl ⟨by rfl, ?hy37⟩) (fun _ => HS) ?_
        case hy37 => ((intro u' hT; go_simp); try with_reducible rfl)
        try simp only [List.getElem_toArray, List.getElem_cons_succ, List.getElem_cons_zero, Act.put, List.setIfInBounds_toArray, List.set_cons_zero, List.set_cons_succ]
        refine GoS.one (i := 10) (by kernel_rfl) rfl (fun K hK => ?_)
        go_simp
        (with_reducible refine (A1.out.call _).mono ?_)
        rintro e q38 ⟨rfl, hx⟩
        have HS2 := HS.trans hx; clear HS; have HS := HS2; clear HS2 hx
        go_wp2_with fail
        refine hK.out _ _ HS (fun _ => ?_)
        clear hK K
        try simp only [List.getElem_toArray, List.getElem_cons_succ, List.getElem_cons_zero, Act.put, List.setIfInBounds_toArray, List.set_cons_zero, List.set_cons_succ]
        refine GoS.pure (i := 11) (v := ?_) rfl (by kernel_rfl) (by kernel_rfl) (by kernel_rfl) (by kernel_rfl) (fun _ _ _ h => h) (Or.inl ⟨by rfl, ?hy39⟩) (fun _ => HS) ?_
        case hy39 => ((intro u' hT; go_simp); try with_reducible rfl)
        try simp only [List.getElem_toArray, List.getElem_cons_succ, List.getElem_cons_zero, Act.put, List.setIfInBounds_toArray, List.set_cons_zero, List.set_cons_succ]
        refine GoS.pure (i := 12) (v := ?_) rfl (by kernel_rfl) (by kernel_rfl) (by kernel_rfl) (by kernel_rfl) (fun _ _ _ h => h) (Or.inl ⟨by rfl, ?hy40⟩) (fun _ => HS) ?_
        case hy40 => ((intro u' hT; go_simp); try with_reducible rfl)
        try simp only [List.getElem_toArray, List.getElem_cons_succ, List.getElem_cons_zero, Act.put, List.setIfInBounds_toArray, List.set_cons_zero, List.set_cons_succ]
        refine GoS.pure (i := 13) (v := ?_) rfl (by kernel_rfl) (by kernel_rfl) (by kernel_rfl) (by kernel_rfl) (fun _ _ _ h => h) (Or.inl ⟨by rfl, ?hy41⟩) (fun _ => HS) ?_
        case hy41 => ((intro u' hT; go_simp); try with_reducible rfl)
        try simp only [List.getElem_toArray, List.getElem_cons_succ, List.getElem_cons_zero, Act.put, List.setIfInBounds_toArray, List.set_cons_zero, List.set_cons_succ]
        refine GoS.store (i := 14) (by kernel_rfl) rfl (by kernel_rfl) (fun K hK => ?_)
        go_simp
        refine hK.out _ _ ?_
        clear hK K
        try simp only [List.getElem_toArray, List.getElem_cons_succ, List.getElem_cons_zero, Act.put, List.setIfInBounds_toArray, List.set_cons_zero, List.set_cons_succ]
        refine GoS.done (by kernel_rfl) ?_
        have QU2 := Lib.hid (QU.out.later HS); clear QU; have QU := QU2; clear QU2
        have ZU2 := Lib.hid (ZU.out.later HS); clear ZU; have ZU := ZU2; clear ZU2
        have XA2 := Lib.hid (XA.out.trans HS); clear XA; have XA := XA2; clear XA2
        clear HS V4 VU NU
        generalize q38 = u9 at *
  
        have ER := Lib.hid (@rnd_at s r (by rw [HR.out]; exact BM.out))
        rw [HR.out] at ER
        have AT := Lib.hid (@at_walk lo BM.out)
        obtain ⟨NR, hNR⟩ : ∃ NR : Int, NR = -((lo : Nat) : Int) := ⟨_, rfl⟩
        have AN : Hid (Ret 12 #[.int .i64 NR] (.agg #[.int .i64 (atV NR).1, .int .i64 (atV NR).2])) := Lib.hid (at_negR BM.out hNR)
        obtain ⟨y1, y2, y3, y4⟩ := @neg_wrap lo NR BM.out hNR
        cases s with
        | false =>
          have ER2 : Hid (rndV (resI false r) = .agg #[.int .i64 (atV ((lo : Nat) : Int)).1, .int .i64 (atV ((lo : Nat) : Int)).2, .bool true]) := Lib.hid (by rw [HR.out, ER.out]; rfl)
          generalize (atV ((lo : Nat) : Int)).1 = m at *
          generalize (atV ((lo : Nat) : Int)).2 = x at *
          clear y1 y2 y3 y4 hNR
          go_wp2_with fail
          refine (AT.out _).mono ?_
          rintro e w5 ⟨rfl, hx⟩
          have X5 := Lib.hid (XA.out.trans hx)
          have q0 : ∀ ob, (w5.alloc ob).cell? ⟨w.heap.size, 0, none⟩ = some (.bool false) := fun ob => (QU.out.later (hx.alloc ob)).c0
          have z0 : ∀ ob, (w5.alloc ob).cell? ⟨w.heap.size + 1, 0, none⟩ = some (.int .i64 0) := fun ob => (ZU.out.later (hx.alloc ob)).c0
          have z1 : ∀ ob, (w5.alloc ob).cell? ⟨w.heap.size + 1, 1, none⟩ = some (.int .i64 0) := fun ob => (ZU.out.later (hx.alloc ob)).c1
          have z2 : ∀ ob, (w5.alloc ob).cell? ⟨w.heap.size + 1, 2, none⟩ = some (.bool false) := fun ob => (ZU.out.later (hx.alloc ob)).c2
          have zf : ∀ ob j, (w5.alloc ob).frozen? ⟨w.heap.size + 1, j, none⟩ = false := fun ob => (ZU.out.later (hx.alloc ob)).fz
          have nz : w5.heap.size ≠ w.heap.size + 1 := Nat.ne_of_gt (ZU.out.later hx).lt
          have nz' : w.heap.size + 1 ≠ w5.heap.size := fun e => nz e.symm
          clear hx
          go_wp2
          rw [ER2.out]
          refine bodyPost_ret (v := .agg #[.int .i64 m, .int .i64 x, .bool true]) ?_ rfl ⟨rfl, ?_⟩
          · simp [results, Tryz.results55, go_sem, z0, z1, z2]
          · repeat (first | with_reducible exact X5.out | with_reducible refine Ext.alloc ?_ _ | with_reducible refine Ext.setCell ?_ (by simp) _)
        | true =>
          have ER2 : Hid (rndV (resI true r) = .agg #[.int .i64 (atV NR).1, .int .i64 (atV NR).2, .bool true]) := Lib.hid (by rw [HR.out, ER.out, hNR]; rfl)
          generalize (atV ((lo : Nat) : Int)).1 = m at *
          generalize (atV ((lo : Nat) : Int)).2 = x at *
          clear ER hNR
          generalize (atV NR).1 = m' at *
          generalize (atV NR).2 = x' at *
          go_wp2_with fail
          refine (AT.out _).mono ?_
          rintro e w5 ⟨rfl, hx⟩
          have X5 := Lib.hid (XA.out.trans hx)
          have q0 : ∀ ob, (w5.alloc ob).cell? ⟨w.heap.size, 0, none⟩ = some (.bool true) := fun ob => (QU.out.later (hx.alloc ob)).c0
          have ZX := Lib.hid (fun ob => ZU.out.later (hx.alloc ob))
          have L5 := Lib.hid (ZU.out.later hx).lt
          clear hx
          go_wp2_with fail
          refine (AN.out _).mono ?_
          rintro e w6 ⟨rfl, hx⟩
          have o0 : w6.cell? ⟨w5.heap.size, 0, none⟩ = some (.int .i64 m) := (hx.cell 0 (by simp)).trans (by simp [go_sem])
          have o1 : w6.cell? ⟨w5.heap.size, 1, none⟩ = some (.int .i64 x) := (hx.cell 1 (by simp)).trans (by simp [go_sem])
          have of : ∀ j, w6.frozen? ⟨w5.heap.size, j, none⟩ = false := fun j => (hx.froz j (by simp)).trans (by simp [go_sem])
          have Z6 := Lib.hid ((ZX.out _).later hx)
          have z0 := Z6.out.c0; have z1 := Z6.out.c1; have z2 := Z6.out.c2; have zf := Z6.out.fz
          have X6 := Lib.hid ((X5.out.alloc (.cells #[.int .i64 m, .int .i64 x] 23)).trans hx)
          have nz : w5.heap.size ≠ w.heap.size + 1 := Nat.ne_of_gt L5.out
          have nz' : w.heap.size + 1 ≠ w5.heap.size := fun e => nz e.symm
          have nw : w.heap.size ≤ w5.heap.size := X5.out.size
          clear hx
          go_wp2
          rw [ER2.out]
          refine bodyPost_ret (v := .agg #[.int .i64 m', .int .i64 x', .bool true]) ?_ rfl ⟨rfl, ?_⟩
          · simp [results, Tryz.results55, go_sem, z0, z1, z2]
          · repeat (first | with_reducible exact X6.out | with_reducible refine Ext.alloc ?_ _ | with_reducible refine Ext.setCell ?_ (by first | (simp; done) | exact nw) _)
      · have HC := Lib.hid (cmpI_zero.2 c2)
        have BM := Lib.hid c1
        have g2 := next_bd (Nat.not_lt.2 c1)
        have A1 := Lib.hid (at_walk c1)
        have HPAR := at_par c1
        rw [c4] at HPAR
        obtain ⟨q, hq⟩ : ∃ q, q = lo + 1 := ⟨_, rfl⟩
        obtain ⟨v1, v2⟩ := next_wrap c1
        rw [← hq] at v1 v2 c3
        have HR := Lib.hid c3
        clear hq
        have hfld := field0
        generalize (atV (lo : Int)).1 = am at *
        generalize (atV (lo : Int)).2 = ax at *
        clear c1 c2 c3 c4
        go_upto_region 11 with (fail)
        refine wp_region_S (fun uu : World => Ext u uu) 14 (by kernel_rfl) ?_
        have HS : Ext u u.drew := (Ext.refl u).drew
        refine GoS.pure (i := 0) (v := ?_) rfl (by kernel_rfl) (by kernel_rfl) (by kernel_rfl) (by kernel_rfl) (fun _ _ _ h => h) (Or.inl ⟨by rfl, ?hy42⟩) (fun _ => HS) ?_
        case hy42 => ((intro u' hT; go_simp); try with_reducible rfl)
        try simp only [List.getElem_toArray, List.getElem_cons_zero, Act.put, List.setIfInBounds_toArray, List.set_cons_zero, List.set_cons_succ]
        refine GoS.pure (i := 2) (v := ?_) rfl (by kernel_rfl) (by kernel_rfl) (by kernel_rfl) (by kernel_rfl) (fun _ _ _ h => h) (Or.inl ⟨by rfl, ?hy43⟩) (fun _ => HS) ?_
        case hy43 => ((intro u' hT; go_simp); try with_reducible rfl)
        try simp only [List.getElem_toArray, List.getElem_cons_succ, List.getElem_cons_zero, Act.put, List.setIfInBounds_toArray, List.set_cons_zero, List.set_cons_succ]
        refine GoS.take (i := 3) (v := ?_) rfl (by kernel_rfl) (by kernel_rfl) (by kernel_rfl) (by kernel_rfl) (fun _ _ _ h => h) (Or.inl ⟨by rfl, ?hy44⟩) HS ?_
        case hy44 => ((intro u' hT; have d1 := (QU.out.later hT).c2; go_simp); try with_reducible rfl)
        try simp only [List.getElem_toArray, List.getElem_cons_succ, List.getElem_cons_zero, Act.put, List.setIfInBounds_toArray, List.set_cons_zero, List.set_cons_succ]
        refine GoS.pure (i := 5) (v := ?_) rfl (by kernel_rfl) (by kernel_rfl) (by kernel_rfl) (by kernel_rfl) (fun _ _ _ h => h) (Or.inl ⟨by rfl, ?hy45⟩) (fun _ => HS) ?_
        case hy45 => ((intro u' hT; go_simp); try with_reducible rfl)
        try simp only [List.getElem_toArray, List.getElem_cons_succ, List.getElem_cons_zero, Act.put, List.setIfInBounds_toArray, List.set_cons_zero, List.set_cons_succ]
        refine GoS.one (i := 1) (by kernel_rfl) rfl (fun K hK => ?_)
        go_simp
        (with_reducible refine (half_any BM.out _).mono ?_)
        rintro e q46 ⟨v3, rfl, hv, hx⟩
        have HS2 := HS.trans hx; clear HS; have HS := HS2; clear HS2 hx
        go_wp2_with fail
        refine hK.out _ _ HS (fun _ => ?_)
        clear hK K
        try simp only [List.getElem_toArray, List.getElem_cons_succ, List.getElem_cons_zero, Act.put, List.setIfInBounds_toArray, List.set_cons_zero, List.set_cons_succ]
        have V3 := Lib.hid hv; clear hv
        refine GoS.one (i := 4) (by kernel_rfl) rfl (fun K hK => ?_)
        go_simp
        (with_reducible refine (nmul_any V3.out (NU.out.later HS) (HFD.out lo BM.out)).mono ?_)
        rintro e q47 ⟨v4, rfl, hv, hx⟩
        have HS2 := HS.trans hx; clear HS; have HS := HS2; clear HS2 hx
        go_wp2_with fail
        refine hK.out _ _ HS (fun _ => ?_)
        clear hK K
        try simp only [List.getElem_toArray, List.getElem_cons_succ, List.getElem_cons_zero, Act.put, List.setIfInBounds_toArray, List.set_cons_zero, List.set_cons_succ]
        have V4 := Lib.hid hv; clear hv V3
        refine GoS.one (i := 6) (by kernel_rfl) rfl (fun K hK => ?_)
        go_simp
        (with_reducible refine (ncmp_eq V4.out (VU.out.later HS) HC.out).mono ?_)
        rintro e q48 ⟨rfl, hx⟩
        have HS2 := HS.trans hx; clear HS; have HS := HS2; clear HS2 hx
        go_wp2_with fail
        refine hK.out _ _ HS (fun _ => ?_)
        clear hK K
        try simp only [List.getElem_toArray, List.getElem_cons_succ, List.getElem_cons_zero, Act.put, List.setIfInBounds_toArray, List.set_cons_zero, List.set_cons_succ]
        refine GoS.pure (i := 7) (v := ?_) rfl (by kernel_rfl) (by kernel_rfl) (by kernel_rfl) (by kernel_rfl) (fun _ _ _ h => h) (Or.inl ⟨by rfl, ?hy49⟩) (fun _ => HS) ?_
        case hy49 => ((intro u' hT; go_simp); try with_reducible rfl)
        try simp only [List.getElem_toArray, List.getElem_cons_succ, List.getElem_cons_zero, Act.put, List.setIfInBounds_toArray, List.set_cons_zero, List.set_cons_succ]
        refine GoS.pure (i := 8) (v := ?_) rfl (by kernel_rfl) (by kernel_rfl) (by kernel_rfl) (by kernel_rfl) (fun _ _ _ h => h) (Or.inl ⟨by rfl, ?hy50⟩) (fun _ => HS) ?_
        case hy50 => ((intro u' hT; go_simp); try with_reducible rfl)
        try simp only [List.getElem_toArray, List.getElem_cons_succ, List.getElem_cons_zero, Act.put, List.setIfInBounds_toArray, List.set_cons_zero, List.set_cons_succ]
        refine GoS.pure (i := 9) (v := ?_) rfl (by kernel_rfl) (by kernel_rfl) (by kernel_rfl) (by kernel_rfl) (fun _ _ _ h => h) (Or.inl ⟨by rfl, ?hy51⟩) (fun _ => HS) ?_
        case hy51 => ((intro u' hT; go_simp); try with_reducible rfl)
        try simp only [List.getElem_toArray, List.getElem_cons_succ, List.getElem_cons_zero, Act.put, List.setIfInBounds_toArray, List.set_cons_zero, List.set_cons_succ]
        refine GoS.one (i := 10) (by kernel_rfl) rfl (fun K hK => ?_)
        go_simp
        (with_reducible refine (A1.out.call _).mono ?_)
        rintro e q52 ⟨rfl, hx⟩
        have HS2 := HS.trans hx; clear HS; have HS := HS2; clear HS2 hx
        go_wp2_with fail
        refine hK.out _ _ HS (fun _ => ?_)
        clear hK K
        try simp only [List.getElem_toArray, List.getElem_cons_succ, List.getElem_cons_zero, Act.put, List.setIfInBounds_toArray, List.set_cons_zero, List.set_cons_succ]
        refine GoS.pure (i := 11) (v := ?_) rfl (by kernel_rfl) (by kernel_rfl) (by kernel_rfl) (by kernel_rfl) (fun _ _ _ h => h) (Or.inl ⟨by rfl, ?hy53⟩) (fun _ => HS) ?_
        case hy53 => ((intro u' hT; go_simp); try with_reducible rfl)
        try simp only [List.getElem_toArray, List.getElem_cons_succ, List.getElem_cons_zero, Act.put, List.setIfInBounds_toArray, List.set_cons_zero, List.set_cons_succ]
        refine GoS.pure (i := 12) (v := ?_) rfl (by kernel_rfl) (by kernel_rfl) (by kernel_rfl) (by kernel_rfl) (fun _ _ _ h => h) (Or.inl ⟨by rfl, ?hy54⟩) (fun _ => HS) ?_
        case hy54 => ((intro u' hT; go_simp); try with_reducible rfl)
        try simp only [List.getElem_toArray, List.getElem_cons_succ, List.getElem_cons_zero, Act.put, List.setIfInBounds_toArray, List.set_cons_zero, List.set_cons_succ]
        refine GoS.pure (i := 13) (v := ?_) rfl (by kernel_rfl) (by kernel_rfl) (by kernel_rfl) (by kernel_rfl) (fun _ _ _ h => h) (Or.inl ⟨by rfl, ?hy55⟩) (fun _ => HS) ?_
        case hy55 => ((intro u' hT; go_simp); try with_reducible rfl)
        try simp only [List.getElem_toArray, List.getElem_cons_succ, List.getElem_cons_zero, Act.put, List.setIfInBounds_toArray, List.set_cons_zero, List.set_cons_succ]
        refine GoS.store (i := 14) (by kernel_rfl) rfl (by kernel_rfl) (fun K hK => ?_)
        go_simp
        refine hK.out _ _ ?_
        clear hK K
        try simp only [List.getElem_toArray, List.getElem_cons_succ, List.getElem_cons_zero, Act.put, List.setIfInBounds_toArray, List.set_cons_zero, List.set_cons_succ]
        refine GoS.done (by kernel_rfl) ?_
        have QU2 := Lib.hid (QU.out.later HS); clear QU; have QU := QU2; clear QU2
        have ZU2 := Lib.hid (ZU.out.later HS); clear ZU; have ZU := ZU2; clear ZU2
        have XA2 := Lib.hid (XA.out.trans HS); clear XA; have XA := XA2; clear XA2
        clear HS V4 VU NU
        generalize q52 = u9 at *
        go_upto_region 13 with (fail)
        by_cases hov : 2533359615 < q
        · have g3 := next_bd2 hov
          have ER := Lib.hid (@rnd_far s r (by rw [HR.out]; exact hov))
          have z0 := ZU.out.c0; have z1 := ZU.out.c1; have z2 := ZU.out.c2; have zf := ZU.out.fz
          clear hov
          go_wp2
          rw [ER.out]
          refine bodyPost_ret (v := .agg #[.int .i64 0, .int .i64 0, .bool false]) ?_ rfl ⟨rfl, ?_⟩
          · simp [results, Tryz.results55, go_sem, z0, z1, z2]
          · repeat (first | with_reducible exact XA.out | with_reducible refine Ext.alloc ?_ _ | with_reducible refine Ext.setCell ?_ (by simp) _)
        have g4 := next_bd hov
        have BM2 := Lib.hid (Nat.le_of_not_lt hov)
        clear hov
        have ER := Lib.hid (@rnd_at s r (by rw [HR.out]; exact BM2.out))
        rw [HR.out] at ER
        have AT := Lib.hid (@at_walk q BM2.out)
        obtain ⟨NR, hNR⟩ : ∃ NR : Int, NR = -((q : Nat) : Int) := ⟨_, rfl⟩
        have AN : Hid (Ret 12 #[.int .i64 NR] (.agg #[.int .i64 (atV NR).1, .int .i64 (atV NR).2])) := Lib.hid (at_negR BM2.out hNR)
        obtain ⟨y1, y2, y3, y4⟩ := @neg_wrap q NR BM2.out hNR
        cases s with
        | false =>
          have ER2 : Hid (rndV (resI false r) = .agg #[.int .i64 (atV ((q : Nat) : Int)).1, .int .i64 (atV ((q : Nat) : Int)).2, .bool true]) := Lib.hid (by rw [HR.out, ER.out]; rfl)
          generalize (atV ((q : Nat) : Int)).1 = m at *
          generalize (atV ((q : Nat) : Int)).2 = x at *
          clear y1 y2 y3 y4 hNR
          go_wp2_with fail
          refine (AT.out _).mono ?_
          rintro e w5 ⟨rfl, hx⟩
          have X5 := Lib.hid (XA.out.trans hx)
          have q0 : ∀ ob, (w5.alloc ob).cell? ⟨w.heap.size, 0, none⟩ = some (.bool false) := fun ob => (QU.out.later (hx.alloc ob)).c0
          have z0 : ∀ ob, (w5.alloc ob).cell? ⟨w.heap.size + 1, 0, none⟩ = some (.int .i64 0) := fun ob => (ZU.out.later (hx.alloc ob)).c0
          have z1 : ∀ ob, (w5.alloc ob).cell? ⟨w.heap.size + 1, 1, none⟩ = some (.int .i64 0) := fun ob => (ZU.out.later (hx.alloc ob)).c1
          have z2 : ∀ ob, (w5.alloc ob).cell? ⟨w.heap.size + 1, 2, none⟩ = some (.bool false) := fun ob => (ZU.out.later (hx.alloc ob)).c2
          have zf : ∀ ob j, (w5.alloc ob).frozen? ⟨w.heap.size + 1, j, none⟩ = false := fun ob => (ZU.out.later (hx.alloc ob)).fz
          have nz : w5.heap.size ≠ w.heap.size + 1 := Nat.ne_of_gt (ZU.out.later hx).lt
          have nz' : w.heap.size + 1 ≠ w5.heap.size := fun e => nz e.symm
          clear hx
          go_wp2
          rw [ER2.out]
          refine bodyPost_ret (v := .agg #[.int .i64 m, .int .i64 x, .bool true]) ?_ rfl ⟨rfl, ?_⟩
          · simp [results, Tryz.results55, go_sem, z0, z1, z2]
          · repeat (first | with_reducible exact X5.out | with_reducible refine Ext.alloc ?_ _ | with_reducible refine Ext.setCell ?_ (by simp) _)
        | true =>
          have ER2 : Hid (rndV (resI true r) = .agg #[.int .i64 (atV NR).1, .int .i64 (atV NR).2, .bool true]) := Lib.hid (by rw [HR.out, ER.out, hNR]; rfl)
          generalize (atV ((q : Nat) : Int)).1 = m at *
          generalize (atV ((q : Nat) : Int)).2 = x at *
          clear ER hNR
          generalize (atV NR).1 = m' at *
          generalize (atV NR).2 = x' at *
          go_wp2_with fail
          refine (AT.out _).mono ?_
          rintro e w5 ⟨rfl, hx⟩
          have X5 := Lib.hid (XA.out.trans hx)
          have q0 : ∀ ob, (w5.alloc ob).cell? ⟨w.heap.size, 0, none⟩ = some (.bool true) := fun ob => (QU.out.later (hx.alloc ob)).c0
          have ZX := Lib.hid (fun ob => ZU.out.later (hx.alloc ob))
          have L5 := Lib.hid (ZU.out.later hx).lt
          clear hx
          go_wp2_with fail
          refine (AN.out _).mono ?_
          rintro e w6 ⟨rfl, hx⟩
          have o0 : w6.cell? ⟨w5.heap.size, 0, none⟩ = some (.int .i64 m) := (hx.cell 0 (by simp)).trans (by simp [go_sem])
          have o1 : w6.cell? ⟨w5.heap.size, 1, none⟩ = some (.int .i64 x) := (hx.cell 1 (by simp)).trans (by simp [go_sem])
          have of : ∀ j, w6.frozen? ⟨w5.heap.size, j, none⟩ = false := fun j => (hx.froz j (by simp)).trans (by simp [go_sem])
          have Z6 := Lib.hid ((ZX.out _).later hx)
          have z0 := Z6.out.c0; have z1 := Z6.out.c1; have z2 := Z6.out.c2; have zf := Z6.out.fz
          have X6 := Lib.hid ((X5.out.alloc (.cells #[.int .i64 m, .int .i64 x] 23)).trans hx)
          have nz : w5.heap.size ≠ w.heap.size + 1 := Nat.ne_of_gt L5.out
          have nz' : w.heap.size + 1 ≠ w5.heap.size := fun e => nz e.symm
          have nw : w.heap.size ≤ w5.heap.size := X5.out.size
          clear hx
          go_wp2
          rw [ER2.out]
          refine bodyPost_ret (v := .agg #[.int .i64 m', .int .i64 x', .bool true]) ?_ rfl ⟨rfl, ?_⟩
          · simp [results, Tryz.results55, go_sem, z0, z1, z2]
          · repeat (first | with_reducible exact X6.out | with_reducible refine Ext.alloc ?_ _ | with_reducible refine Ext.setCell ?_ (by first | (simp; done) | exact nw) _)
  
end Go.Proofs.YtogfiekbikechaaGreatDoor
