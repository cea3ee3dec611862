/- Layer 2: decimalOf. -/
import Derived.Test.YtogfiekbikechaaGreatDoorGm
import Derived.Test.YtogfiekbikechaaGreatDoorGb
import Derived.Test.YtogfiekbikechaaGreatDoorGd
import Derived.Deep.CutRange
import Derived.Deep.LoopGhost
import Derived.Laws.Tables
import Derived.Outline
namespace Go.Proofs.YtogfiekbikechaaGreatDoor
open Go.RowKit

theorem times10 (n : Nat) (w : World) : Calls Tryz.prog 107 #[.agg #[.int .u64 (L (n) 0), .int .u64 (L (n) 1), .int .u64 (L (n) 2), .int .u64 (L (n) 3), .int .u64 (L (n) 4), .int .u64 (L (n) 5)], .int .u64 10] w fun e w' => e = .returned (.agg #[.int .u64 (L (n * 10) 0), .int .u64 (L (n * 10) 1), .int .u64 (L (n * 10) 2), .int .u64 (L (n * 10) 3), .int .u64 (L (n * 10) 4), .int .u64 (L (n * 10) 5)]) ∧ Ext w w' := times_any n 10 (by decide) w
theorem times10m (n : Nat) (w : World) : Calls Tryz.prog 107 #[.agg #[.int .u64 (L (n) 0), .int .u64 (L (n) 1), .int .u64 (L (n) 2), .int .u64 (L (n) 3), .int .u64 (L (n) 4), .int .u64 (L (n) 5)], .int .u64 10] w fun e w' => e = .returned (.agg #[.int .u64 (L (n * 10 % M384) 0), .int .u64 (L (n * 10 % M384) 1), .int .u64 (L (n * 10 % M384) 2), .int .u64 (L (n * 10 % M384) 3), .int .u64 (L (n * 10 % M384) 4), .int .u64 (L (n * 10 % M384) 5)]) ∧ Ext w w' :=
  (times10 n w).mono fun e w' ⟨h, hx⟩ => ⟨by rw [h, L_mod _ (by omega), L_mod _ (by omega), L_mod _ (by omega), L_mod _ (by omega), L_mod _ (by omega), L_mod _ (by omega)], hx⟩
theorem ite_pos {c : Prop} [Decidable c] {a b : Prop} (h : c) (ha : a) : if c then a else b := by rw [if_pos h]; exact ha
theorem store_nat {P : Program} {op : Oper} {a : Act} {u : World} {K : Act → World → Prop} {Q : Exit → Act → World → Prop} (ty : TypeId) (x y : Operand) (ho : op.op = .store ty x y) (b o n : Nat)
    (hx : a.eval x = .pointer (some ⟨b, o, none⟩)) (hy : a.eval y = .agg #[.int .u64 (L (n) 0), .int .u64 (L (n) 1), .int .u64 (L (n) 2), .int .u64 (L (n) 3), .int .u64 (L (n) 4), .int .u64 (L (n) 5)]) (ht : u.there b o 6) (hi : (P.info? ty).map (·.size) = some 6)
    (h : K (a.put op.dst undef) (put6 u b o (L n))) : op.wp P a u K Q :=
  wp_store_mid ty x y ho b o #[.int .u64 (L (n) 0), .int .u64 (L (n) 1), .int .u64 (L (n) 2), .int .u64 (L (n) 3), .int .u64 (L (n) 4), .int .u64 (L (n) 5)] hx hy ht hi (by simp [Value.oneCell']) h
set_option maxRecDepth 100000 in
set_option maxHeartbeats 8000000 in
theorem dec_any (m x : Int) (man : Nat) (hm : max m (-m) = (man : Int)) (h1 : man < 16777216) (b1 : -16777216 < m) (b2 : m < 16777216) (hx1 : -150 ≤ x) (hx2 : x ≤ 150) (D0 D1 D2 : Dec)
    (h0 : D0 = decStart man x) (hu : upDone 60 D0 = true) (hD1 : decUp 60 D0 = D1) (hd : downDone 60 D1 = true) (hD2 : decDown 60 D1 = D2) (hp1 : D1.point ≤ 100) (hp2 : -100 ≤ D1.point) (w : World) :
    Calls Tryz.prog 115 #[.agg #[.int .i64 m, .int .i64 x]] w fun e w' =>
      e = .returned (.agg #[.int .u64 (L (D2.num) 0), .int .u64 (L (D2.num) 1), .int .u64 (L (D2.num) 2), .int .u64 (L (D2.num) 3), .int .u64 (L (D2.num) 4), .int .u64 (L (D2.num) 5), .int .u64 (L (D2.below) 0), .int .u64 (L (D2.below) 1), .int .u64 (L (D2.below) 2), .int .u64 (L (D2.below) 3), .int .u64 (L (D2.below) 4), .int .u64 (L (D2.below) 5), .int .u64 (L (D2.above) 0), .int .u64 (L (D2.above) 1), .int .u64 (L (D2.above) 2), .int .u64 (L (D2.above) 3), .int .u64 (L (D2.above) 4), .int .u64 (L (D2.above) 5), .int .u64 (L (D2.size) 0), .int .u64 (L (D2.size) 1), .int .u64 (L (D2.size) 2), .int .u64 (L (D2.size) 3), .int .u64 (L (D2.size) 4), .int .u64 (L (D2.size) 5), .int .i64 D2.point]) ∧ Ext w w' := by
  have w1 : IntKind.u64.wrap (man : Int) = man := IntWalk.u64_in _ ⟨by omega, by omega⟩
  have w2 : IntKind.u64.wrap (4 * (man : Int)) = ((4 * man : Nat) : Int) := by rw [IntWalk.u64_in _ ⟨by omega, by omega⟩]; omega
  have HP := Lib.hid (And.intro h0 (And.intro hu (And.intro hD1 (And.intro hd (And.intro hD2 (And.intro hp1 hp2))))))
  clear h0 hu hD1 hd hD2 hp1 hp2
  go_enter Tryz.func115, Tryz.ntmps115
  go_upto_region 2 with (fail)
  refine wp_region_list ?_
  simp only []
  iterate 8 (refine wpList_step fun K hK => ?_; go_simp; refine hK _ _ ?_; clear hK K)
  refine wpList_store_row rfl 126 (.tmp 4) (.tmp 18) rfl (w.heap.size + 1 + 1) #[.int .u64 ((4 * man : Nat) : Int), .int .u64 0, .int .u64 0, .int .u64 0, .int .u64 0, .int .u64 0, .int .u64 2, .int .u64 0, .int .u64 0, .int .u64 0, .int .u64 0, .int .u64 0, .int .u64 2, .int .u64 0, .int .u64 0, .int .u64 0, .int .u64 0, .int .u64 0, .int .u64 4, .int .u64 0, .int .u64 0, .int .u64 0, .int .u64 0, .int .u64 0, .int .i64 0] (by rfl) ?_ 126 #[.int .u64 0, .int .u64 0, .int .u64 0, .int .u64 0, .int .u64 0, .int .u64 0, .int .u64 0, .int .u64 0, .int .u64 0, .int .u64 0, .int .u64 0, .int .u64 0, .int .u64 0, .int .u64 0, .int .u64 0, .int .u64 0, .int .u64 0, .int .u64 0, .int .u64 0, .int .u64 0, .int .u64 0, .int .u64 0, .int .u64 0, .int .u64 0, .int .i64 0] ?_ (by kernel_rfl) (by rfl) (by simp [Value.oneCell']) ?_
  · simp [Act.eval]
  · exact alloc_new _ _ (by simp)
  refine wpList_nil ?_
  obtain ⟨u0, hu0⟩ : ∃ u0, u0 = ((((w.alloc (.cells #[.int .i64 m, .int .i64 x] 23)).alloc (.cells #[.int .u64 0, .int .u64 0, .int .u64 0, .int .u64 0, .int .u64 0, .int .u64 0, .int .u64 0, .int .u64 0, .int .u64 0, .int .u64 0, .int .u64 0, .int .u64 0, .int .u64 0, .int .u64 0, .int .u64 0, .int .u64 0, .int .u64 0, .int .u64 0, .int .u64 0, .int .u64 0, .int .u64 0, .int .u64 0, .int .u64 0, .int .u64 0, .int .i64 0] 126)).alloc (.cells #[.int .u64 0, .int .u64 0, .int .u64 0, .int .u64 0, .int .u64 0, .int .u64 0, .int .u64 0, .int .u64 0, .int .u64 0, .int .u64 0, .int .u64 0, .int .u64 0, .int .u64 0, .int .u64 0, .int .u64 0, .int .u64 0, .int .u64 0, .int .u64 0, .int .u64 0, .int .u64 0, .int .u64 0, .int .u64 0, .int .u64 0, .int .u64 0, .int .i64 0] 126)).setRow (w.heap.size + 1 + 1) #[.int .u64 ((4 * man : Nat) : Int), .int .u64 0, .int .u64 0, .int .u64 0, .int .u64 0, .int .u64 0, .int .u64 2, .int .u64 0, .int .u64 0, .int .u64 0, .int .u64 0, .int .u64 0, .int .u64 2, .int .u64 0, .int .u64 0, .int .u64 0, .int .u64 0, .int .u64 0, .int .u64 4, .int .u64 0, .int .u64 0, .int .u64 0, .int .u64 0, .int .u64 0, .int .i64 0]) := ⟨_, rfl⟩
  have HD : Hid (DD w u0 (dV ⟨4 * man, 2, 2, 4, 0⟩) x) := Lib.hid (by rw [hu0]; exact dd_start w m x man (by omega) _ _ _)
  rw [← hu0]
  clear hu0
  have cx := HD.out.x
  simp only [Exit.then, Act.put]
  go_upto_region 3 with (fail)
  go_cut [25] from 19 (fun s25 wc => s25 = .bool (decide (man = 8388608 ∧ -150 < x)) ∧ u0 = wc)
  case first =>
    by_cases hu : man = 8388608
    · have hu' : ((man : Int) == 8388608) = true := by simp; omega
      have HU := Lib.hid hu; clear hu
      by_cases hv : x > -150
      · go_wp2_with fail; go_meet; exact ⟨by have := HU.out; simp; omega, rfl⟩
      · go_wp2_with fail; go_meet; exact ⟨by have := HU.out; simp; omega, rfl⟩
    · have hu' : ((man : Int) == 8388608) = false := by simp; omega
      go_wp2_with fail; go_meet; exact ⟨by simp [hu], rfl⟩
  obtain ⟨rfl, rfl⟩ := hcut
  go_upto_if 25 with (fail)
  go_cut [] from 19 (fun wc => DD w wc (dV ⟨4 * man, (if man = 8388608 ∧ -150 < x then 1 else 2), 2, 4, 0⟩) x)
  case first =>
    by_cases hB : man = 8388608 ∧ -150 < x
    · rw [decide_eq_true hB]
      have HB := Lib.hid hB; clear hB
      obtain ⟨c0, c1, c2, c3, c4, c5⟩ := HD.out.d.bel
      have f0 := HD.out.d.froz
      go_wp2_with fail; go_meet; rw [if_pos HB.out]; exact HD.out.bel1
    · rw [decide_eq_false hB]
      go_wp2_with fail; go_meet; rw [if_neg hB]; exact HD.out
  clear HD cx
  have HD := Lib.hid hcut
  clear hcut
  have cx := HD.out.x
  go_upto_if 30 with (fail)
  obtain ⟨bb, hbb⟩ : ∃ bb : Nat, (if man = 8388608 ∧ -150 < x then 1 else 2) = bb := ⟨_, rfl⟩
  have HBB := Lib.hid hbb
  rw [hbb] at HD
  clear hbb
  go_cut [] from 19 (fun wc => DD w wc (dV (decStart man x)) x)
  case first =>
    by_cases hx : 0 ≤ x
    · as_aux_lemma =>
        rw [decide_eq_true hx]
        obtain ⟨p, hp⟩ : ∃ p : Nat, x = (p : Int) := ⟨x.toNat, by omega⟩
        subst hp
        go_upto_region 6 with (fail)
        clear cx
        refine wp_region_S (fun u' => DD w u' (dV ⟨4 * man, bb, 2, 4, 0⟩) (p : Int)) 16 (by kernel_rfl) ?_
        have HT : (fun u' => DD w u' (dV ⟨4 * man, bb, 2, 4, 0⟩) (p : Int)) wc.drew := HD.out.drew
        dsimp only at HT
        clear HD
        refine GoS.take (i := 0) (v := ?_) rfl (by kernel_rfl) (by kernel_rfl) (by kernel_rfl) (by kernel_rfl) (fun _ _ _ h => h) (Or.inl ⟨by rfl, ?hy1⟩) (by assumption) ?_
        case hy1 => ((intro u' hT; skip; go_simp); try with_reducible rfl)
        try simp only [List.getElem_toArray, List.getElem_cons_zero, Act.put, List.setIfInBounds_toArray, List.set_cons_zero, List.set_cons_succ]
        refine GoS.take (i := 1) (v := ?_) rfl (by kernel_rfl) (by kernel_rfl) (by kernel_rfl) (by kernel_rfl) (fun _ _ _ h => h) (Or.inl ⟨by rfl, ?hy2⟩) (by assumption) ?_
        case hy2 => ((intro u' hT; obtain ⟨g0, g1, g2, g3, g4, g5⟩ := Dk.num hT.d; go_simp); try with_reducible rfl)
        try simp only [List.getElem_toArray, List.getElem_cons_succ, List.getElem_cons_zero, Act.put, List.setIfInBounds_toArray, List.set_cons_zero, List.set_cons_succ]
        refine GoS.take (i := 2) (v := ?_) rfl (by kernel_rfl) (by kernel_rfl) (by kernel_rfl) (by kernel_rfl) (fun _ _ _ h => h) (Or.inl ⟨by rfl, ?hy3⟩) (by assumption) ?_
        case hy3 => ((intro u' hT; skip; go_simp); try with_reducible rfl)
        try simp only [List.getElem_toArray, List.getElem_cons_succ, List.getElem_cons_zero, Act.put, List.setIfInBounds_toArray, List.set_cons_zero, List.set_cons_succ]
        refine GoS.take (i := 3) (v := ?_) rfl (by kernel_rfl) (by kernel_rfl) (by kernel_rfl) (by kernel_rfl) (fun _ _ _ h => h) (Or.inl ⟨by rfl, ?hy4⟩) (by assumption) ?_
        case hy4 => ((intro u' hT; have gx := hT.x; go_simp); try with_reducible rfl)
        try simp only [List.getElem_toArray, List.getElem_cons_succ, List.getElem_cons_zero, Act.put, List.setIfInBounds_toArray, List.set_cons_zero, List.set_cons_succ]
        refine GoS.take (i := 5) (v := ?_) rfl (by kernel_rfl) (by kernel_rfl) (by kernel_rfl) (by kernel_rfl) (fun _ _ _ h => h) (Or.inl ⟨by rfl, ?hy5⟩) (by assumption) ?_
        case hy5 => ((intro u' hT; skip; go_simp); try with_reducible rfl)
        try simp only [List.getElem_toArray, List.getElem_cons_succ, List.getElem_cons_zero, Act.put, List.setIfInBounds_toArray, List.set_cons_zero, List.set_cons_succ]
        refine GoS.take (i := 6) (v := ?_) rfl (by kernel_rfl) (by kernel_rfl) (by kernel_rfl) (by kernel_rfl) (fun _ _ _ h => h) (Or.inl ⟨by rfl, ?hy6⟩) (by assumption) ?_
        case hy6 => ((intro u' hT; obtain ⟨g0, g1, g2, g3, g4, g5⟩ := Dk.bel hT.d; go_simp); try with_reducible rfl)
        try simp only [List.getElem_toArray, List.getElem_cons_succ, List.getElem_cons_zero, Act.put, List.setIfInBounds_toArray, List.set_cons_zero, List.set_cons_succ]
        refine GoS.take (i := 7) (v := ?_) rfl (by kernel_rfl) (by kernel_rfl) (by kernel_rfl) (by kernel_rfl) (fun _ _ _ h => h) (Or.inl ⟨by rfl, ?hy7⟩) (by assumption) ?_
        case hy7 => ((intro u' hT; skip; go_simp); try with_reducible rfl)
        try simp only [List.getElem_toArray, List.getElem_cons_succ, List.getElem_cons_zero, Act.put, List.setIfInBounds_toArray, List.set_cons_zero, List.set_cons_succ]
        refine GoS.take (i := 8) (v := ?_) rfl (by kernel_rfl) (by kernel_rfl) (by kernel_rfl) (by kernel_rfl) (fun _ _ _ h => h) (Or.inl ⟨by rfl, ?hy8⟩) (by assumption) ?_
        case hy8 => ((intro u' hT; have gx := hT.x; go_simp); try with_reducible rfl)
        try simp only [List.getElem_toArray, List.getElem_cons_succ, List.getElem_cons_zero, Act.put, List.setIfInBounds_toArray, List.set_cons_zero, List.set_cons_succ]
        refine GoS.take (i := 10) (v := ?_) rfl (by kernel_rfl) (by kernel_rfl) (by kernel_rfl) (by kernel_rfl) (fun _ _ _ h => h) (Or.inl ⟨by rfl, ?hy9⟩) (by assumption) ?_
        case hy9 => ((intro u' hT; skip; go_simp); try with_reducible rfl)
        try simp only [List.getElem_toArray, List.getElem_cons_succ, List.getElem_cons_zero, Act.put, List.setIfInBounds_toArray, List.set_cons_zero, List.set_cons_succ]
        refine GoS.take (i := 11) (v := ?_) rfl (by kernel_rfl) (by kernel_rfl) (by kernel_rfl) (by kernel_rfl) (fun _ _ _ h => h) (Or.inl ⟨by rfl, ?hy10⟩) (by assumption) ?_
        case hy10 => ((intro u' hT; obtain ⟨g0, g1, g2, g3, g4, g5⟩ := Dk.abv hT.d; go_simp); try with_reducible rfl)
        try simp only [List.getElem_toArray, List.getElem_cons_succ, List.getElem_cons_zero, Act.put, List.setIfInBounds_toArray, List.set_cons_zero, List.set_cons_succ]
        refine GoS.take (i := 12) (v := ?_) rfl (by kernel_rfl) (by kernel_rfl) (by kernel_rfl) (by kernel_rfl) (fun _ _ _ h => h) (Or.inl ⟨by rfl, ?hy11⟩) (by assumption) ?_
        case hy11 => ((intro u' hT; skip; go_simp); try with_reducible rfl)
        try simp only [List.getElem_toArray, List.getElem_cons_succ, List.getElem_cons_zero, Act.put, List.setIfInBounds_toArray, List.set_cons_zero, List.set_cons_succ]
        refine GoS.take (i := 13) (v := ?_) rfl (by kernel_rfl) (by kernel_rfl) (by kernel_rfl) (by kernel_rfl) (fun _ _ _ h => h) (Or.inl ⟨by rfl, ?hy12⟩) (by assumption) ?_
        case hy12 => ((intro u' hT; have gx := hT.x; go_simp); try with_reducible rfl)
        try simp only [List.getElem_toArray, List.getElem_cons_succ, List.getElem_cons_zero, Act.put, List.setIfInBounds_toArray, List.set_cons_zero, List.set_cons_succ]
        refine GoS.one (i := 4) (by kernel_rfl) rfl (fun K hK => ?_)
        go_simp
        (with_reducible refine (shifted_any (4 * man) p (by omega) _).mono ?_)
        rintro e u1 ⟨rfl, hx1⟩
        have HT2 := HT.later hx1
        clear HT; have HT := HT2; clear HT2 hx1
        go_wp2_with fail
        refine hK.out _ _ HT (fun _ => ?_)
        clear hK K
        try simp only [List.getElem_toArray, List.getElem_cons_succ, List.getElem_cons_zero, Act.put, List.setIfInBounds_toArray, List.set_cons_zero, List.set_cons_succ]
        refine GoS.pure (i := 15) (v := ?_) rfl (by kernel_rfl) (by kernel_rfl) (by kernel_rfl) (by kernel_rfl) (fun _ _ _ h => h) (Or.inl ⟨by rfl, ?hy13⟩) (fun _ => HT) ?_
        case hy13 => ((intro u' hT; go_simp); try with_reducible rfl)
        try simp only [List.getElem_toArray, List.getElem_cons_succ, List.getElem_cons_zero, Act.put, List.setIfInBounds_toArray, List.set_cons_zero, List.set_cons_succ]
        refine GoS.one (i := 9) (by kernel_rfl) rfl (fun K hK => ?_)
        go_simp
        (with_reducible refine (shifted_any (bb) p (by omega) _).mono ?_)
        rintro e u2 ⟨rfl, hx2⟩
        have HT2 := HT.later hx2
        clear HT; have HT := HT2; clear HT2 hx2
        go_wp2_with fail
        refine hK.out _ _ HT (fun _ => ?_)
        clear hK K
        try simp only [List.getElem_toArray, List.getElem_cons_succ, List.getElem_cons_zero, Act.put, List.setIfInBounds_toArray, List.set_cons_zero, List.set_cons_succ]
        refine GoS.one (i := 14) (by kernel_rfl) rfl (fun K hK => ?_)
        go_simp
        (with_reducible refine (shifted_any (2) p (by omega) _).mono ?_)
        rintro e u3 ⟨rfl, hx3⟩
        have HT2 := HT.later hx3
        clear HT; have HT := HT2; clear HT2 hx3
        go_wp2_with fail
        refine hK.out _ _ HT (fun _ => ?_)
        clear hK K
        try simp only [List.getElem_toArray, List.getElem_cons_succ, List.getElem_cons_zero, Act.put, List.setIfInBounds_toArray, List.set_cons_zero, List.set_cons_succ]
        have HD := Lib.hid HT; clear HT
        refine GoS.store (i := 16) (by kernel_rfl) rfl (by kernel_rfl) (fun K hK => ?_)
        refine ite_pos (by kernel_rfl) ?_
        refine store_nat 118 (.tmp 46) (.tmp 35) rfl (w.heap.size + 1 + 1) 0 (4 * man * p2 p) ?a1s14 ?a2s14 ?a3s14 ?a4s14 ?a5s14
        case a1s14 => rfl
        case a3s14 => exact HD.out.d.there (n := 6) (by decide)
        case a4s14 => kernel_rfl
        case a2s14 => rfl
        refine hK.out _ _ ?_
        clear hK K
        have HD2 := Lib.hid (HD.out.num (4 * man * p2 p))
        clear HD; have HD := HD2; clear HD2
        generalize put6 _ (w.heap.size + 1 + 1) 0 (L (4 * man * p2 p)) = v16 at HD ⊢
        try simp only [List.getElem_toArray, List.getElem_cons_succ, List.getElem_cons_zero, Act.put]
        refine GoS.behind (i := 17) (v := ?_) rfl (by kernel_rfl) (by kernel_rfl) (by kernel_rfl) (by kernel_rfl) (fun _ _ _ h => h) (Or.inl ⟨by rfl, ?hy15⟩) (by kernel_rfl) ?_
        case hy15 => ((intro u' hT; go_simp); try with_reducible rfl)
        try simp only [List.getElem_toArray, List.getElem_cons_succ, List.getElem_cons_zero, Act.put, List.setIfInBounds_toArray, List.set_cons_zero, List.set_cons_succ]
        refine GoS.store (i := 18) (by kernel_rfl) rfl (by kernel_rfl) (fun K hK => ?_)
        refine ite_pos (by kernel_rfl) ?_
        refine store_nat 118 (.tmp 47) (.tmp 40) rfl (w.heap.size + 1 + 1) 6 (bb * p2 p) ?a1s16 ?a2s16 ?a3s16 ?a4s16 ?a5s16
        case a1s16 => rfl
        case a3s16 => exact HD.out.d.there (n := 6) (by decide)
        case a4s16 => kernel_rfl
        case a2s16 => rfl
        refine hK.out _ _ ?_
        clear hK K
        have HD2 := Lib.hid (HD.out.bel (bb * p2 p))
        clear HD; have HD := HD2; clear HD2
        generalize put6 _ (w.heap.size + 1 + 1) 6 (L (bb * p2 p)) = v18 at HD ⊢
        try simp only [List.getElem_toArray, List.getElem_cons_succ, List.getElem_cons_zero, Act.put]
        refine GoS.behind (i := 19) (v := ?_) rfl (by kernel_rfl) (by kernel_rfl) (by kernel_rfl) (by kernel_rfl) (fun _ _ _ h => h) (Or.inl ⟨by rfl, ?hy17⟩) (by kernel_rfl) ?_
        case hy17 => ((intro u' hT; go_simp); try with_reducible rfl)
        try simp only [List.getElem_toArray, List.getElem_cons_succ, List.getElem_cons_zero, Act.put, List.setIfInBounds_toArray, List.set_cons_zero, List.set_cons_succ]
        refine GoS.store (i := 20) (by kernel_rfl) rfl (by kernel_rfl) (fun K hK => ?_)
        refine ite_pos (by kernel_rfl) ?_
        refine store_nat 118 (.tmp 48) (.tmp 45) rfl (w.heap.size + 1 + 1) 12 (2 * p2 p) ?a1s18 ?a2s18 ?a3s18 ?a4s18 ?a5s18
        case a1s18 => rfl
        case a3s18 => exact HD.out.d.there (n := 6) (by decide)
        case a4s18 => kernel_rfl
        case a2s18 => rfl
        refine hK.out _ _ ?_
        clear hK K
        have HD2 := Lib.hid (HD.out.abv (2 * p2 p))
        clear HD; have HD := HD2; clear HD2
        generalize put6 _ (w.heap.size + 1 + 1) 12 (L (2 * p2 p)) = v20 at HD ⊢
        try simp only [List.getElem_toArray, List.getElem_cons_succ, List.getElem_cons_zero, Act.put]
        refine GoS.done (by kernel_rfl) ?_
        go_wp2_with fail; go_meet
        have e2 : decStart man (p : Int) = ⟨shN (4 * man) p, shN bb p, shN 2 p, 4, 0⟩ := by unfold decStart; rw [HBB.out, if_pos (by omega)]; simp
        rw [e2]
        exact HD.out.same rfl (fun j hj => by unfold shN p2; exact L_mod _ hj) (fun j hj => by unfold shN p2; exact L_mod _ hj) (fun j hj => by unfold shN p2; exact L_mod _ hj) (fun j hj => rfl)
    · as_aux_lemma =>
        rw [decide_eq_false hx]
        obtain ⟨p, hp⟩ : ∃ p : Nat, x = -(p : Int) := ⟨(-x).toNat, by omega⟩
        subst hp
        have i0 : (0 : Int) ≤ p := by omega
        have i1 : (p : Int) ≤ 150 := by omega
        obtain ⟨c0, c1, c2, c3, c4, c5⟩ := Dk.siz HD.out.d
        go_wp2_with fail
        (with_reducible refine (shifted_any 4 p (by omega) _).mono ?_)
        rintro e u1 ⟨rfl, hx1⟩
        clear c0 c1 c2 c3 c4 c5 cx
        have HD2 := Lib.hid (HD.out.later hx1)
        clear HD hx1
        have HD := HD2; clear HD2
        obtain ⟨c0, c1, c2, c3, c4, c5⟩ := Dk.siz HD.out.d
        have f0 := HD.out.d.froz
        go_wp2_with fail; go_meet
        have e2 : decStart man (-(p : Int)) = ⟨4 * man, bb, 2, shN 4 p, 0⟩ := by unfold decStart; rw [HBB.out, if_neg (by omega)]; simp
        rw [e2]
        have HH := HD.out.siz (4 * p2 p)
        unfold put6 at HH
        simp only [Nat.reduceAdd] at HH
        exact HH.same rfl (fun j hj => rfl) (fun j hj => rfl) (fun j hj => rfl) (fun j hj => by unfold shN p2; exact L_mod _ hj)
  clear HD cx HBB
  have HD : Hid (DD w wc (dV D0) x) := Lib.hid (by rw [HP.out.1]; exact hcut)
  have SD : Hid (SmallD D0) := Lib.hid (by rw [HP.out.1]; exact decStart_small man x h1)
  have PD : Hid (D0.point = 0) := Lib.hid (by rw [HP.out.1]; exact decStart_point man x)
  clear hcut
  go_wp2_with fail
  go_loopg [] 60 (fun k wr => ∃ d : Dec, DD w wr (dV d) x ∧ Hid (SmallD d ∧ upDone k d = true ∧ decUp k d = D1 ∧ 0 ≤ d.point ∧ d.point + k ≤ 60))
  case atStart => exact ⟨D0, HD.out, Lib.hid ⟨SD.out, HP.out.2.1, HP.out.2.2.1, by rw [PD.out]; omega, by rw [PD.out]; omega⟩⟩
  case round =>
    obtain ⟨d, hdd, HK⟩ := hrel
    clear HD SD PD
    have HD := Lib.hid hdd
    clear hdd
    by_cases hc : d.size ≤ d.num
    · obtain ⟨j, hj, hj1, hj2⟩ := up_go HK.out.2.1 hc
      have HJ := Lib.hid (And.intro hj (And.intro hj1 hj2))
      have hcm : (0 : Int) ≤ cmpN d.num d.size := by unfold cmpN; split <;> (try split) <;> omega
      clear hc hj hj1 hj2
      obtain ⟨c0, c1, c2, c3, c4, c5⟩ := Dk.num HD.out.d
      obtain ⟨d0, d1, d2, d3, d4, d5⟩ := Dk.siz HD.out.d
      go_wp2_with fail
      (with_reducible refine (compare_any d.num d.size HK.out.1.num HK.out.1.size _).mono ?_)
      rintro e u1 ⟨rfl, hx1⟩
      clear c0 c1 c2 c3 c4 c5 d0 d1 d2 d3 d4 d5
      have HD2 := Lib.hid (HD.out.later hx1)
      clear HD hx1
      have HD := HD2; clear HD2
      obtain ⟨d0, d1, d2, d3, d4, d5⟩ := Dk.siz HD.out.d
      go_wp2_with fail
      (with_reducible refine (times10 d.size _).mono ?_)
      rintro e u2 ⟨rfl, hx2⟩
      clear d0 d1 d2 d3 d4 d5
      have HD2 := Lib.hid (HD.out.later hx2)
      clear HD hx2
      have HD := HD2; clear HD2
      obtain ⟨d0, d1, d2, d3, d4, d5⟩ := Dk.siz HD.out.d
      have f0 := HD.out.d.froz
      go_upto_region 10 with (fail)
      clear d0 d1 d2 d3 d4 d5 f0
      have HH : DD w ((((((u2.setCell ⟨w.heap.size + 1 + 1, 18, none⟩ (.int .u64 (L (d.size * 10) 0))).setCell ⟨w.heap.size + 1 + 1, 19, none⟩ (.int .u64 (L (d.size * 10) 1))).setCell ⟨w.heap.size + 1 + 1, 20, none⟩ (.int .u64 (L (d.size * 10) 2))).setCell ⟨w.heap.size + 1 + 1, 21, none⟩ (.int .u64 (L (d.size * 10) 3))).setCell ⟨w.heap.size + 1 + 1, 22, none⟩ (.int .u64 (L (d.size * 10) 4))).setCell ⟨w.heap.size + 1 + 1, 23, none⟩ (.int .u64 (L (d.size * 10) 5))) (dV { d with size := d.size * 10 }) x := HD.out.siz (d.size * 10)
      generalize ((((((u2.setCell ⟨w.heap.size + 1 + 1, 18, none⟩ (.int .u64 (L (d.size * 10) 0))).setCell ⟨w.heap.size + 1 + 1, 19, none⟩ (.int .u64 (L (d.size * 10) 1))).setCell ⟨w.heap.size + 1 + 1, 20, none⟩ (.int .u64 (L (d.size * 10) 2))).setCell ⟨w.heap.size + 1 + 1, 21, none⟩ (.int .u64 (L (d.size * 10) 3))).setCell ⟨w.heap.size + 1 + 1, 22, none⟩ (.int .u64 (L (d.size * 10) 4))).setCell ⟨w.heap.size + 1 + 1, 23, none⟩ (.int .u64 (L (d.size * 10) 5))) = v2 at HH ⊢
      clear HD
      have HD := Lib.hid HH; clear HH
      have cp := Dk.pnt HD.out.d
      have f0 := HD.out.d.froz 24
      have b1 := HK.out.2.2.2.1
      have b2 := HK.out.2.2.2.2
      have ep : IntKind.i64.wrap (d.point + 1) = d.point + 1 := IntWalk.i64_in _ ⟨by omega, by omega⟩
      clear b1 b2
      dsimp only at cp
      go_wp2_with fail
      go_roundg j
      case measure => have := HJ.out.1; omega
      case rel =>
        refine ⟨upS d, (HD.out.pt (d.point + 1)).same rfl (fun _ _ => rfl) (fun _ _ => rfl) (fun _ _ => rfl) (fun i hi => L_mod _ hi), Lib.hid ⟨HK.out.1.up, HJ.out.2.1, by rw [← HJ.out.2.2]; exact HK.out.2.2.1, ?_, ?_⟩⟩
        · have := HK.out.2.2.2.1; show 0 ≤ d.point + 1; omega
        · have := HK.out.2.2.2.2; have := HJ.out.1; show d.point + 1 + j ≤ 60; omega
    · have hcm : ¬ (0 : Int) ≤ cmpN d.num d.size := by unfold cmpN; rw [if_pos (by omega)]; omega
      have HE1 : Hid (d = D1) := Lib.hid ((up_stop (k := gk) hc).symm.trans HK.out.2.2.1)
      clear hc
      obtain ⟨c0, c1, c2, c3, c4, c5⟩ := Dk.num HD.out.d
      obtain ⟨d0, d1, d2, d3, d4, d5⟩ := Dk.siz HD.out.d
      go_wp2_with fail
      (with_reducible refine (compare_any d.num d.size HK.out.1.num HK.out.1.size _).mono ?_)
      rintro e u1 ⟨rfl, hx1⟩
      clear c0 c1 c2 c3 c4 c5 d0 d1 d2 d3 d4 d5
      have HD2 := Lib.hid (HD.out.later hx1)
      have SD := Lib.hid HK.out.1
      clear HD hx1 HK
      have HD := HD2; clear HD2
      have hd1 := HE1.out; clear HE1; subst hd1
      go_wp2_with fail
      go_loopg [] 60 (fun k wr => ∃ d2 : Dec, DD w wr (dV d2) x ∧ Hid (SmallD d2 ∧ downDone k d2 = true ∧ decDown k d2 = D2 ∧ -100 ≤ d2.point - k + 60 ∧ d2.point ≤ 100))
      case atStart => exact ⟨d, HD.out, Lib.hid ⟨SD.out, HP.out.2.2.2.1, HP.out.2.2.2.2.1, by have := HP.out.2.2.2.2.2.2; omega, HP.out.2.2.2.2.2.1⟩⟩
      case round =>
        obtain ⟨d2, hdd, HK⟩ := hrel
        clear HD SD
        have HD := Lib.hid hdd
        clear hdd
        by_cases hc : d2.num * 10 % M384 < d2.size
        · obtain ⟨j, hj, hj1, hj2⟩ := down_go HK.out.2.1 hc
          have HJ := Lib.hid (And.intro hj (And.intro hj1 hj2))
          have hcm : cmpN (d2.num * 10 % M384) d2.size < 0 := by unfold cmpN; rw [if_pos hc]; omega
          clear hc hj hj1 hj2
          go_upto_region 11 with (fail)
          refine wp_region_S (fun u' => DD w u' (dV d2) x) 6 (by kernel_rfl) ?_
          have HT : (fun u' => DD w u' (dV d2) x) wr.drew := HD.out.drew
          dsimp only at HT
          clear HD
          refine GoS.take (i := 0) (v := ?_) rfl (by kernel_rfl) (by kernel_rfl) (by kernel_rfl) (by kernel_rfl) (fun _ _ _ h => h) (Or.inl ⟨by rfl, ?hy19⟩) (by assumption) ?_
          case hy19 => ((intro u' hT; skip; go_simp); try with_reducible rfl)
          try simp only [List.getElem_toArray, List.getElem_cons_zero, Act.put, List.setIfInBounds_toArray, List.set_cons_zero, List.set_cons_succ]
          refine GoS.take (i := 1) (v := ?_) rfl (by kernel_rfl) (by kernel_rfl) (by kernel_rfl) (by kernel_rfl) (fun _ _ _ h => h) (Or.inl ⟨by rfl, ?hy20⟩) (by assumption) ?_
          case hy20 => ((intro u' hT; obtain ⟨g0, g1, g2, g3, g4, g5⟩ := Dk.num hT.d; go_simp); try with_reducible rfl)
          try simp only [List.getElem_toArray, List.getElem_cons_succ, List.getElem_cons_zero, Act.put, List.setIfInBounds_toArray, List.set_cons_zero, List.set_cons_succ]
          refine GoS.take (i := 3) (v := ?_) rfl (by kernel_rfl) (by kernel_rfl) (by kernel_rfl) (by kernel_rfl) (fun _ _ _ h => h) (Or.inl ⟨by rfl, ?hy21⟩) (by assumption) ?_
          case hy21 => ((intro u' hT; skip; go_simp); try with_reducible rfl)
          try simp only [List.getElem_toArray, List.getElem_cons_succ, List.getElem_cons_zero, Act.put, List.setIfInBounds_toArray, List.set_cons_zero, List.set_cons_succ]
          refine GoS.take (i := 4) (v := ?_) rfl (by kernel_rfl) (by kernel_rfl) (by kernel_rfl) (by kernel_rfl) (fun _ _ _ h => h) (Or.inl ⟨by rfl, ?hy22⟩) (by assumption) ?_
          case hy22 => ((intro u' hT; obtain ⟨g0, g1, g2, g3, g4, g5⟩ := Dk.siz hT.d; go_simp); try with_reducible rfl)
          try simp only [List.getElem_toArray, List.getElem_cons_succ, List.getElem_cons_zero, Act.put, List.setIfInBounds_toArray, List.set_cons_zero, List.set_cons_succ]
          refine GoS.one (i := 2) (by kernel_rfl) rfl (fun K hK => ?_)
          go_simp
          (with_reducible refine (times10m d2.num _).mono ?_)
          rintro e u11 ⟨rfl, hx11⟩
          have HT2 := HT.later hx11
          clear HT; have HT := HT2; clear HT2 hx11
          go_wp2_with fail
          refine hK.out _ _ HT (fun _ => ?_)
          clear hK K
          try simp only [List.getElem_toArray, List.getElem_cons_succ, List.getElem_cons_zero, Act.put, List.setIfInBounds_toArray, List.set_cons_zero, List.set_cons_succ]
          refine GoS.one (i := 5) (by kernel_rfl) rfl (fun K hK => ?_)
          go_simp
          (with_reducible refine (compare_any (d2.num * 10 % M384) d2.size (mod_N6 _) HK.out.1.size _).mono ?_)
          rintro e u12 ⟨rfl, hx12⟩
          have HT2 := HT.later hx12
          clear HT; have HT := HT2; clear HT2 hx12
          go_wp2_with fail
          refine hK.out _ _ HT (fun _ => ?_)
          clear hK K
          try simp only [List.getElem_toArray, List.getElem_cons_succ, List.getElem_cons_zero, Act.put, List.setIfInBounds_toArray, List.set_cons_zero, List.set_cons_succ]
          refine GoS.store (i := 6) (by kernel_rfl) rfl (by kernel_rfl) (fun K hK => ?_)
          go_simp
          refine hK.out _ _ ?_
          clear hK K
          try simp only [List.getElem_toArray, List.getElem_cons_succ, List.getElem_cons_zero, Act.put, List.setIfInBounds_toArray, List.set_cons_zero, List.set_cons_succ]
          refine GoS.done (by kernel_rfl) ?_
          have HD := Lib.hid HT; clear HT
          go_upto_region 12 with (fail)
          refine wp_region_S (fun u' => DD w u' (dV d2) x) 10 (by kernel_rfl) ?_
          have HT : (fun u' => DD w u' (dV d2) x) u12.drew := HD.out.drew
          dsimp only at HT
          clear HD
          refine GoS.take (i := 0) (v := ?_) rfl (by kernel_rfl) (by kernel_rfl) (by kernel_rfl) (by kernel_rfl) (fun _ _ _ h => h) (Or.inl ⟨by rfl, ?hy23⟩) (by assumption) ?_
          case hy23 => ((intro u' hT; skip; go_simp); try with_reducible rfl)
          try simp only [List.getElem_toArray, List.getElem_cons_zero, Act.put, List.setIfInBounds_toArray, List.set_cons_zero, List.set_cons_succ]
          refine GoS.take (i := 1) (v := ?_) rfl (by kernel_rfl) (by kernel_rfl) (by kernel_rfl) (by kernel_rfl) (fun _ _ _ h => h) (Or.inl ⟨by rfl, ?hy24⟩) (by assumption) ?_
          case hy24 => ((intro u' hT; obtain ⟨g0, g1, g2, g3, g4, g5⟩ := Dk.num hT.d; go_simp); try with_reducible rfl)
          try simp only [List.getElem_toArray, List.getElem_cons_succ, List.getElem_cons_zero, Act.put, List.setIfInBounds_toArray, List.set_cons_zero, List.set_cons_succ]
          refine GoS.take (i := 3) (v := ?_) rfl (by kernel_rfl) (by kernel_rfl) (by kernel_rfl) (by kernel_rfl) (fun _ _ _ h => h) (Or.inl ⟨by rfl, ?hy25⟩) (by assumption) ?_
          case hy25 => ((intro u' hT; skip; go_simp); try with_reducible rfl)
          try simp only [List.getElem_toArray, List.getElem_cons_succ, List.getElem_cons_zero, Act.put, List.setIfInBounds_toArray, List.set_cons_zero, List.set_cons_succ]
          refine GoS.take (i := 4) (v := ?_) rfl (by kernel_rfl) (by kernel_rfl) (by kernel_rfl) (by kernel_rfl) (fun _ _ _ h => h) (Or.inl ⟨by rfl, ?hy26⟩) (by assumption) ?_
          case hy26 => ((intro u' hT; obtain ⟨g0, g1, g2, g3, g4, g5⟩ := Dk.bel hT.d; go_simp); try with_reducible rfl)
          try simp only [List.getElem_toArray, List.getElem_cons_succ, List.getElem_cons_zero, Act.put, List.setIfInBounds_toArray, List.set_cons_zero, List.set_cons_succ]
          refine GoS.take (i := 6) (v := ?_) rfl (by kernel_rfl) (by kernel_rfl) (by kernel_rfl) (by kernel_rfl) (fun _ _ _ h => h) (Or.inl ⟨by rfl, ?hy27⟩) (by assumption) ?_
          case hy27 => ((intro u' hT; skip; go_simp); try with_reducible rfl)
          try simp only [List.getElem_toArray, List.getElem_cons_succ, List.getElem_cons_zero, Act.put, List.setIfInBounds_toArray, List.set_cons_zero, List.set_cons_succ]
          refine GoS.take (i := 7) (v := ?_) rfl (by kernel_rfl) (by kernel_rfl) (by kernel_rfl) (by kernel_rfl) (fun _ _ _ h => h) (Or.inl ⟨by rfl, ?hy28⟩) (by assumption) ?_
          case hy28 => ((intro u' hT; obtain ⟨g0, g1, g2, g3, g4, g5⟩ := Dk.abv hT.d; go_simp); try with_reducible rfl)
          try simp only [List.getElem_toArray, List.getElem_cons_succ, List.getElem_cons_zero, Act.put, List.setIfInBounds_toArray, List.set_cons_zero, List.set_cons_succ]
          refine GoS.one (i := 2) (by kernel_rfl) rfl (fun K hK => ?_)
          go_simp
          (with_reducible refine (times10m d2.num _).mono ?_)
          rintro e u21 ⟨rfl, hx21⟩
          have HT2 := HT.later hx21
          clear HT; have HT := HT2; clear HT2 hx21
          go_wp2_with fail
          refine hK.out _ _ HT (fun _ => ?_)
          clear hK K
          try simp only [List.getElem_toArray, List.getElem_cons_succ, List.getElem_cons_zero, Act.put, List.setIfInBounds_toArray, List.set_cons_zero, List.set_cons_succ]
          refine GoS.pure (i := 9) (v := ?_) rfl (by kernel_rfl) (by kernel_rfl) (by kernel_rfl) (by kernel_rfl) (fun _ _ _ h => h) (Or.inl ⟨by rfl, ?hy29⟩) (fun _ => HT) ?_
          case hy29 => ((intro u' hT; go_simp); try with_reducible rfl)
          try simp only [List.getElem_toArray, List.getElem_cons_succ, List.getElem_cons_zero, Act.put, List.setIfInBounds_toArray, List.set_cons_zero, List.set_cons_succ]
          refine GoS.one (i := 5) (by kernel_rfl) rfl (fun K hK => ?_)
          go_simp
          (with_reducible refine (times10m d2.below _).mono ?_)
          rintro e u22 ⟨rfl, hx22⟩
          have HT2 := HT.later hx22
          clear HT; have HT := HT2; clear HT2 hx22
          go_wp2_with fail
          refine hK.out _ _ HT (fun _ => ?_)
          clear hK K
          try simp only [List.getElem_toArray, List.getElem_cons_succ, List.getElem_cons_zero, Act.put, List.setIfInBounds_toArray, List.set_cons_zero, List.set_cons_succ]
          refine GoS.one (i := 8) (by kernel_rfl) rfl (fun K hK => ?_)
          go_simp
          (with_reducible refine (times10m d2.above _).mono ?_)
          rintro e u23 ⟨rfl, hx23⟩
          have HT2 := HT.later hx23
          clear HT; have HT := HT2; clear HT2 hx23
          go_wp2_with fail
          refine hK.out _ _ HT (fun _ => ?_)
          clear hK K
          try simp only [List.getElem_toArray, List.getElem_cons_succ, List.getElem_cons_zero, Act.put, List.setIfInBounds_toArray, List.set_cons_zero, List.set_cons_succ]
          have HD := Lib.hid HT; clear HT
          refine GoS.store (i := 10) (by kernel_rfl) rfl (by kernel_rfl) (fun K hK => ?_)
          refine ite_pos (by kernel_rfl) ?_
          refine store_nat 118 (.tmp 86) (.tmp 79) rfl (w.heap.size + 1 + 1) 0 (d2.num * 10 % M384) ?a1s30 ?a2s30 ?a3s30 ?a4s30 ?a5s30
          case a1s30 => rfl
          case a3s30 => exact HD.out.d.there (n := 6) (by decide)
          case a4s30 => kernel_rfl
          case a2s30 => rfl
          refine hK.out _ _ ?_
          clear hK K
          have HD2 := Lib.hid (HD.out.num (d2.num * 10 % M384))
          clear HD; have HD := HD2; clear HD2
          generalize put6 _ (w.heap.size + 1 + 1) 0 (L (d2.num * 10 % M384)) = v10 at HD ⊢
          try simp only [List.getElem_toArray, List.getElem_cons_succ, List.getElem_cons_zero, Act.put]
          refine GoS.behind (i := 11) (v := ?_) rfl (by kernel_rfl) (by kernel_rfl) (by kernel_rfl) (by kernel_rfl) (fun _ _ _ h => h) (Or.inl ⟨by rfl, ?hy31⟩) (by kernel_rfl) ?_
          case hy31 => ((intro u' hT; go_simp); try with_reducible rfl)
          try simp only [List.getElem_toArray, List.getElem_cons_succ, List.getElem_cons_zero, Act.put, List.setIfInBounds_toArray, List.set_cons_zero, List.set_cons_succ]
          refine GoS.store (i := 12) (by kernel_rfl) rfl (by kernel_rfl) (fun K hK => ?_)
          refine ite_pos (by kernel_rfl) ?_
          refine store_nat 118 (.tmp 87) (.tmp 82) rfl (w.heap.size + 1 + 1) 6 (d2.below * 10 % M384) ?a1s32 ?a2s32 ?a3s32 ?a4s32 ?a5s32
          case a1s32 => rfl
          case a3s32 => exact HD.out.d.there (n := 6) (by decide)
          case a4s32 => kernel_rfl
          case a2s32 => rfl
          refine hK.out _ _ ?_
          clear hK K
          have HD2 := Lib.hid (HD.out.bel (d2.below * 10 % M384))
          clear HD; have HD := HD2; clear HD2
          generalize put6 _ (w.heap.size + 1 + 1) 6 (L (d2.below * 10 % M384)) = v12 at HD ⊢
          try simp only [List.getElem_toArray, List.getElem_cons_succ, List.getElem_cons_zero, Act.put]
          refine GoS.behind (i := 13) (v := ?_) rfl (by kernel_rfl) (by kernel_rfl) (by kernel_rfl) (by kernel_rfl) (fun _ _ _ h => h) (Or.inl ⟨by rfl, ?hy33⟩) (by kernel_rfl) ?_
          case hy33 => ((intro u' hT; go_simp); try with_reducible rfl)
          try simp only [List.getElem_toArray, List.getElem_cons_succ, List.getElem_cons_zero, Act.put, List.setIfInBounds_toArray, List.set_cons_zero, List.set_cons_succ]
          refine GoS.store (i := 14) (by kernel_rfl) rfl (by kernel_rfl) (fun K hK => ?_)
          refine ite_pos (by kernel_rfl) ?_
          refine store_nat 118 (.tmp 88) (.tmp 85) rfl (w.heap.size + 1 + 1) 12 (d2.above * 10 % M384) ?a1s34 ?a2s34 ?a3s34 ?a4s34 ?a5s34
          case a1s34 => rfl
          case a3s34 => exact HD.out.d.there (n := 6) (by decide)
          case a4s34 => kernel_rfl
          case a2s34 => rfl
          refine hK.out _ _ ?_
          clear hK K
          have HD2 := Lib.hid (HD.out.abv (d2.above * 10 % M384))
          clear HD; have HD := HD2; clear HD2
          generalize put6 _ (w.heap.size + 1 + 1) 12 (L (d2.above * 10 % M384)) = v14 at HD ⊢
          try simp only [List.getElem_toArray, List.getElem_cons_succ, List.getElem_cons_zero, Act.put]
          refine GoS.done (by kernel_rfl) ?_
          have cp := Dk.pnt HD.out.d
          have f0 := HD.out.d.froz 24
          have ep : IntKind.i64.wrap (d2.point - 1) = d2.point - 1 := by have := HK.out.2.2.2.1; have := HK.out.2.2.2.2; have := HJ.out.1; exact IntWalk.i64_in _ ⟨by omega, by omega⟩
          dsimp only at cp
          go_wp2_with fail
          go_roundg j
          case measure => have := HJ.out.1; omega
          case rel =>
            refine ⟨downS d2, HD.out.pt (d2.point - 1), Lib.hid ⟨HK.out.1.down, HJ.out.2.1, by rw [← HJ.out.2.2]; exact HK.out.2.2.1, ?_, ?_⟩⟩
            · have := HK.out.2.2.2.1; have := HJ.out.1; show -100 ≤ d2.point - 1 - j + 60; omega
            · have := HK.out.2.2.2.2; show d2.point - 1 ≤ 100; omega
        · have hcm : ¬ cmpN (d2.num * 10 % M384) d2.size < 0 := by unfold cmpN; rw [if_neg hc]; split <;> omega
          have HE2 : Hid (d2 = D2) := Lib.hid ((down_stop (k := gk) hc).symm.trans HK.out.2.2.1)
          clear hc
          go_upto_region 11 with (fail)
          refine wp_region_S (fun u' => DD w u' (dV d2) x) 6 (by kernel_rfl) ?_
          have HT : (fun u' => DD w u' (dV d2) x) wr.drew := HD.out.drew
          dsimp only at HT
          clear HD
          refine GoS.take (i := 0) (v := ?_) rfl (by kernel_rfl) (by kernel_rfl) (by kernel_rfl) (by kernel_rfl) (fun _ _ _ h => h) (Or.inl ⟨by rfl, ?hy35⟩) (by assumption) ?_
          case hy35 => ((intro u' hT; skip; go_simp); try with_reducible rfl)
          try simp only [List.getElem_toArray, List.getElem_cons_zero, Act.put, List.setIfInBounds_toArray, List.set_cons_zero, List.set_cons_succ]
          refine GoS.take (i := 1) (v := ?_) rfl (by kernel_rfl) (by kernel_rfl) (by kernel_rfl) (by kernel_rfl) (fun _ _ _ h => h) (Or.inl ⟨by rfl, ?hy36⟩) (by assumption) ?_
          case hy36 => ((intro u' hT; obtain ⟨g0, g1, g2, g3, g4, g5⟩ := Dk.num hT.d; go_simp); try with_reducible rfl)
          try simp only [List.getElem_toArray, List.getElem_cons_succ, List.getElem_cons_zero, Act.put, List.setIfInBounds_toArray, List.set_cons_zero, List.set_cons_succ]
          refine GoS.take (i := 3) (v := ?_) rfl (by kernel_rfl) (by kernel_rfl) (by kernel_rfl) (by kernel_rfl) (fun _ _ _ h => h) (Or.inl ⟨by rfl, ?hy37⟩) (by assumption) ?_
          case hy37 => ((intro u' hT; skip; go_simp); try with_reducible rfl)
          try simp only [List.getElem_toArray, List.getElem_cons_succ, List.getElem_cons_zero, Act.put, List.setIfInBounds_toArray, List.set_cons_zero, List.set_cons_succ]
          refine GoS.take (i := 4) (v := ?_) rfl (by kernel_rfl) (by kernel_rfl) (by kernel_rfl) (by kernel_rfl) (fun _ _ _ h => h) (Or.inl ⟨by rfl, ?hy38⟩) (by assumption) ?_
          case hy38 => ((intro u' hT; obtain ⟨g0, g1, g2, g3, g4, g5⟩ := Dk.siz hT.d; go_simp); try with_reducible rfl)
          try simp only [List.getElem_toArray, List.getElem_cons_succ, List.getElem_cons_zero, Act.put, List.setIfInBounds_toArray, List.set_cons_zero, List.set_cons_succ]
          refine GoS.one (i := 2) (by kernel_rfl) rfl (fun K hK => ?_)
          go_simp
          (with_reducible refine (times10m d2.num _).mono ?_)
          rintro e u11 ⟨rfl, hx11⟩
          have HT2 := HT.later hx11
          clear HT; have HT := HT2; clear HT2 hx11
          go_wp2_with fail
          refine hK.out _ _ HT (fun _ => ?_)
          clear hK K
          try simp only [List.getElem_toArray, List.getElem_cons_succ, List.getElem_cons_zero, Act.put, List.setIfInBounds_toArray, List.set_cons_zero, List.set_cons_succ]
          refine GoS.one (i := 5) (by kernel_rfl) rfl (fun K hK => ?_)
          go_simp
          (with_reducible refine (compare_any (d2.num * 10 % M384) d2.size (mod_N6 _) HK.out.1.size _).mono ?_)
          rintro e u12 ⟨rfl, hx12⟩
          have HT2 := HT.later hx12
          clear HT; have HT := HT2; clear HT2 hx12
          go_wp2_with fail
          refine hK.out _ _ HT (fun _ => ?_)
          clear hK K
          try simp only [List.getElem_toArray, List.getElem_cons_succ, List.getElem_cons_zero, Act.put, List.setIfInBounds_toArray, List.set_cons_zero, List.set_cons_succ]
          refine GoS.store (i := 6) (by kernel_rfl) rfl (by kernel_rfl) (fun K hK => ?_)
          go_simp
          refine hK.out _ _ ?_
          clear hK K
          try simp only [List.getElem_toArray, List.getElem_cons_succ, List.getElem_cons_zero, Act.put, List.setIfInBounds_toArray, List.set_cons_zero, List.set_cons_succ]
          refine GoS.done (by kernel_rfl) ?_
          have HD := Lib.hid HT; clear HT
          go_upto_region 14 with (fail)
          refine wp_region_list ?_
          simp only []
          refine wpList_load_mid rfl 126 (.tmp 4) rfl (w.heap.size + 1 + 1) 0 (by rfl) [.int .u64 (L (d2.num) 0), .int .u64 (L (d2.num) 1), .int .u64 (L (d2.num) 2), .int .u64 (L (d2.num) 3), .int .u64 (L (d2.num) 4), .int .u64 (L (d2.num) 5), .int .u64 (L (d2.below) 0), .int .u64 (L (d2.below) 1), .int .u64 (L (d2.below) 2), .int .u64 (L (d2.below) 3), .int .u64 (L (d2.below) 4), .int .u64 (L (d2.below) 5), .int .u64 (L (d2.above) 0), .int .u64 (L (d2.above) 1), .int .u64 (L (d2.above) 2), .int .u64 (L (d2.above) 3), .int .u64 (L (d2.above) 4), .int .u64 (L (d2.above) 5), .int .u64 (L (d2.size) 0), .int .u64 (L (d2.size) 1), .int .u64 (L (d2.size) 2), .int .u64 (L (d2.size) 3), .int .u64 (L (d2.size) 4), .int .u64 (L (d2.size) 5), .int .i64 d2.point] _ (Dk.range HD.out.d) Tryz.underlying126 (by rfl) (by kernel_rfl) ?_
          try simp only [Act.put, List.setIfInBounds_toArray, List.set_cons_zero, List.set_cons_succ]
          refine wpList_store_mid rfl 126 (.tmp 2) (.tmp 93) rfl (w.heap.size + 1) 0 #[.int .u64 (L (d2.num) 0), .int .u64 (L (d2.num) 1), .int .u64 (L (d2.num) 2), .int .u64 (L (d2.num) 3), .int .u64 (L (d2.num) 4), .int .u64 (L (d2.num) 5), .int .u64 (L (d2.below) 0), .int .u64 (L (d2.below) 1), .int .u64 (L (d2.below) 2), .int .u64 (L (d2.below) 3), .int .u64 (L (d2.below) 4), .int .u64 (L (d2.below) 5), .int .u64 (L (d2.above) 0), .int .u64 (L (d2.above) 1), .int .u64 (L (d2.above) 2), .int .u64 (L (d2.above) 3), .int .u64 (L (d2.above) 4), .int .u64 (L (d2.above) 5), .int .u64 (L (d2.size) 0), .int .u64 (L (d2.size) 1), .int .u64 (L (d2.size) 2), .int .u64 (L (d2.size) 3), .int .u64 (L (d2.size) 4), .int .u64 (L (d2.size) 5), .int .i64 d2.point] (by rfl) (by rfl) (HD.out.r.there (n := 25) (by decide)) (by kernel_rfl) (by simp [Value.oneCell']) ?_
          refine wpList_nil ?_
          simp only [Exit.then, Act.put]
          have HR := Lib.hid (dk_setCells HD.out.r d2.num d2.below d2.above d2.size d2.point)
          have HX := Lib.hid (Ext.setCells (b := w.heap.size + 1) (by omega) [.int .u64 (L (d2.num) 0), .int .u64 (L (d2.num) 1), .int .u64 (L (d2.num) 2), .int .u64 (L (d2.num) 3), .int .u64 (L (d2.num) 4), .int .u64 (L (d2.num) 5), .int .u64 (L (d2.below) 0), .int .u64 (L (d2.below) 1), .int .u64 (L (d2.below) 2), .int .u64 (L (d2.below) 3), .int .u64 (L (d2.below) 4), .int .u64 (L (d2.below) 5), .int .u64 (L (d2.above) 0), .int .u64 (L (d2.above) 1), .int .u64 (L (d2.above) 2), .int .u64 (L (d2.above) 3), .int .u64 (L (d2.above) 4), .int .u64 (L (d2.above) 5), .int .u64 (L (d2.size) 0), .int .u64 (L (d2.size) 1), .int .u64 (L (d2.size) 2), .int .u64 (L (d2.size) 3), .int .u64 (L (d2.size) 4), .int .u64 (L (d2.size) 5), .int .i64 d2.point] 0 _ HD.out.e)
          generalize World.setCells u12 _ 0 [.int .u64 (L (d2.num) 0), .int .u64 (L (d2.num) 1), .int .u64 (L (d2.num) 2), .int .u64 (L (d2.num) 3), .int .u64 (L (d2.num) 4), .int .u64 (L (d2.num) 5), .int .u64 (L (d2.below) 0), .int .u64 (L (d2.below) 1), .int .u64 (L (d2.below) 2), .int .u64 (L (d2.below) 3), .int .u64 (L (d2.below) 4), .int .u64 (L (d2.below) 5), .int .u64 (L (d2.above) 0), .int .u64 (L (d2.above) 1), .int .u64 (L (d2.above) 2), .int .u64 (L (d2.above) 3), .int .u64 (L (d2.above) 4), .int .u64 (L (d2.above) 5), .int .u64 (L (d2.size) 0), .int .u64 (L (d2.size) 1), .int .u64 (L (d2.size) 2), .int .u64 (L (d2.size) 3), .int .u64 (L (d2.size) 4), .int .u64 (L (d2.size) 5), .int .i64 d2.point] = u13 at HR HX ⊢
          clear HD HK HP
          have HL : Hid (Sem.run Tryz.prog (loadVar 126 ⟨w.heap.size + 1, 0, none⟩) u13 = .ok (.agg #[.int .u64 (L (d2.num) 0), .int .u64 (L (d2.num) 1), .int .u64 (L (d2.num) 2), .int .u64 (L (d2.num) 3), .int .u64 (L (d2.num) 4), .int .u64 (L (d2.num) 5), .int .u64 (L (d2.below) 0), .int .u64 (L (d2.below) 1), .int .u64 (L (d2.below) 2), .int .u64 (L (d2.below) 3), .int .u64 (L (d2.below) 4), .int .u64 (L (d2.below) 5), .int .u64 (L (d2.above) 0), .int .u64 (L (d2.above) 1), .int .u64 (L (d2.above) 2), .int .u64 (L (d2.above) 3), .int .u64 (L (d2.above) 4), .int .u64 (L (d2.above) 5), .int .u64 (L (d2.size) 0), .int .u64 (L (d2.size) 1), .int .u64 (L (d2.size) 2), .int .u64 (L (d2.size) 3), .int .u64 (L (d2.size) 4), .int .u64 (L (d2.size) 5), .int .i64 d2.point]) u13) := Lib.hid (run_loadVar_mid u13 (w.heap.size + 1) 0 126 [.int .u64 (L (d2.num) 0), .int .u64 (L (d2.num) 1), .int .u64 (L (d2.num) 2), .int .u64 (L (d2.num) 3), .int .u64 (L (d2.num) 4), .int .u64 (L (d2.num) 5), .int .u64 (L (d2.below) 0), .int .u64 (L (d2.below) 1), .int .u64 (L (d2.below) 2), .int .u64 (L (d2.below) 3), .int .u64 (L (d2.below) 4), .int .u64 (L (d2.below) 5), .int .u64 (L (d2.above) 0), .int .u64 (L (d2.above) 1), .int .u64 (L (d2.above) 2), .int .u64 (L (d2.above) 3), .int .u64 (L (d2.above) 4), .int .u64 (L (d2.above) 5), .int .u64 (L (d2.size) 0), .int .u64 (L (d2.size) 1), .int .u64 (L (d2.size) 2), .int .u64 (L (d2.size) 3), .int .u64 (L (d2.size) 4), .int .u64 (L (d2.size) 5), .int .i64 d2.point] _ (Dk.range HR.out) Tryz.underlying126 (by rfl) (by kernel_rfl))
          go_wp2_with fail
          refine bodyPost_ret (v := .agg #[.int .u64 (L (d2.num) 0), .int .u64 (L (d2.num) 1), .int .u64 (L (d2.num) 2), .int .u64 (L (d2.num) 3), .int .u64 (L (d2.num) 4), .int .u64 (L (d2.num) 5), .int .u64 (L (d2.below) 0), .int .u64 (L (d2.below) 1), .int .u64 (L (d2.below) 2), .int .u64 (L (d2.below) 3), .int .u64 (L (d2.below) 4), .int .u64 (L (d2.below) 5), .int .u64 (L (d2.above) 0), .int .u64 (L (d2.above) 1), .int .u64 (L (d2.above) 2), .int .u64 (L (d2.above) 3), .int .u64 (L (d2.above) 4), .int .u64 (L (d2.above) 5), .int .u64 (L (d2.size) 0), .int .u64 (L (d2.size) 1), .int .u64 (L (d2.size) 2), .int .u64 (L (d2.size) 3), .int .u64 (L (d2.size) 4), .int .u64 (L (d2.size) 5), .int .i64 d2.point]) ?_ rfl ⟨by rw [HE2.out], HX.out⟩
          exact results_cell (s := 2) (t := 126) Tryz.results115 (by rfl) HL.out
end Go.Proofs.YtogfiekbikechaaGreatDoor
