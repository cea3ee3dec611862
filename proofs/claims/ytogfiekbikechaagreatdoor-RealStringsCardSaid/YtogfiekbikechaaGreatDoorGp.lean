/- Layer 2: shortest. -/
import Derived.Test.YtogfiekbikechaaGreatDoorGo
import Derived.Test.YtogfiekbikechaaGreatDoorGe
import Derived.Sort.CutIn
namespace Go.Proofs.YtogfiekbikechaaGreatDoor
open Go.RowKit Go.Shelf
attribute [local go_sem] Oper.semAt_some

theorem digits_mk (n s : Nat) (w : World) : Calls Tryz.prog 116 #[.agg #[.int .u64 (L (n) 0), .int .u64 (L (n) 1), .int .u64 (L (n) 2), .int .u64 (L (n) 3), .int .u64 (L (n) 4), .int .u64 (L (n) 5)], .agg #[.int .u64 (L (s) 0), .int .u64 (L (s) 1), .int .u64 (L (s) 2), .int .u64 (L (s) 3), .int .u64 (L (s) 4), .int .u64 (L (s) 5)]] w fun e w' =>
    e = .returned (.func (.func 143) #[] #[.pointer (some ⟨w.heap.size, 0, none⟩), .pointer (some ⟨w.heap.size + 1, 0, none⟩)]) ∧ w' = (w.alloc (.cells #[.int .u64 (L (n) 0), .int .u64 (L (n) 1), .int .u64 (L (n) 2), .int .u64 (L (n) 3), .int .u64 (L (n) 4), .int .u64 (L (n) 5)] 118)).alloc (.cells #[.int .u64 (L (s) 0), .int .u64 (L (s) 1), .int .u64 (L (s) 2), .int .u64 (L (s) 3), .int .u64 (L (s) 4), .int .u64 (L (s) 5)] 118) := by
  have hmf : ∀ (fn : Fn) (first cap : Array Value) (w : World), (Instr.makeFunc fn first cap).run Tryz.prog w = .ok (.func fn first cap) w := fun _ _ _ _ => rfl
  go_enter Tryz.func116, Tryz.ntmps116
  go_wp2
  go_ret
  exact ⟨rfl, rfl⟩

theorem plusm (n m : Nat) (w : World) : Calls Tryz.prog 108 #[.agg #[.int .u64 (L (n) 0), .int .u64 (L (n) 1), .int .u64 (L (n) 2), .int .u64 (L (n) 3), .int .u64 (L (n) 4), .int .u64 (L (n) 5)], .agg #[.int .u64 (L (m) 0), .int .u64 (L (m) 1), .int .u64 (L (m) 2), .int .u64 (L (m) 3), .int .u64 (L (m) 4), .int .u64 (L (m) 5)]] w fun e w' => e = .returned (.agg #[.int .u64 (L ((n + m) % M384) 0), .int .u64 (L ((n + m) % M384) 1), .int .u64 (L ((n + m) % M384) 2), .int .u64 (L ((n + m) % M384) 3), .int .u64 (L ((n + m) % M384) 4), .int .u64 (L ((n + m) % M384) 5)]) ∧ Ext w w' :=
  (plus_any n m w).mono fun e w' ⟨h, hx⟩ => ⟨by rw [h, L_mod _ (by omega), L_mod _ (by omega), L_mod _ (by omega), L_mod _ (by omega), L_mod _ (by omega), L_mod _ (by omega)], hx⟩

set_option maxRecDepth 100000 in
set_option maxHeartbeats 8000000 in
theorem shortest_any (m x : Int) (D : Dec) (even : Bool) (hev : (m.tmod 2 == 0) = even) (hn1 : D.num < D.size) (hn2 : SmallD D) (hdone : shortDone even D.size 60 D.num D.below D.above = true) (hp1 : -100 ≤ D.point) (hp2 : D.point ≤ 100) (w : World) (hI : ∀ (d : Nat), d ≤ 10 → ∀ u, Ext w u → Calls Tryz.prog 113 #[.int .i64 d] u fun e w' => e = .returned (.string (bs (itoaD d))) ∧ Ext u w') (hD : ∀ w, Calls Tryz.prog 115 #[.agg #[.int .i64 m, .int .i64 x]] w fun e w' =>
      e = .returned (.agg #[.int .u64 (L (D.num) 0), .int .u64 (L (D.num) 1), .int .u64 (L (D.num) 2), .int .u64 (L (D.num) 3), .int .u64 (L (D.num) 4), .int .u64 (L (D.num) 5), .int .u64 (L (D.below) 0), .int .u64 (L (D.below) 1), .int .u64 (L (D.below) 2), .int .u64 (L (D.below) 3), .int .u64 (L (D.below) 4), .int .u64 (L (D.below) 5), .int .u64 (L (D.above) 0), .int .u64 (L (D.above) 1), .int .u64 (L (D.above) 2), .int .u64 (L (D.above) 3), .int .u64 (L (D.above) 4), .int .u64 (L (D.above) 5), .int .u64 (L (D.size) 0), .int .u64 (L (D.size) 1), .int .u64 (L (D.size) 2), .int .u64 (L (D.size) 3), .int .u64 (L (D.size) 4), .int .u64 (L (D.size) 5), .int .i64 D.point]) ∧ Ext w w') :
    Calls Tryz.prog 90 #[.agg #[.int .i64 m, .int .i64 x]] w fun e w' => e = .returned (.tuple #[.string (bs (shT D even).1), .int .i64 (shT D even).2]) ∧ Ext w w' := by
  have HD := Lib.hid hD
  have HI := Lib.hid hI
  have HP := Lib.hid (And.intro hn1 (And.intro hn2 (And.intro hdone (And.intro hp1 hp2))))
  clear hD hI hn1 hn2 hdone hp1 hp2
  refine (callsIn_wide (n := 4)).1 ?_
  refine callsIn_of_wp_marks Tryz.func90 rfl trivial ?_ rfl
  simp only [Tryz.ntmps90, List.size_toArray, List.length_cons, List.length_nil, Nat.reduceAdd, Nat.reduceSub, Array.replicate_succ, Array.replicate_zero, List.push_toArray, List.append_toArray, List.nil_append, List.cons_append]
  gi_upto_region 1 with (fail)
  refine wpIn_wide.2 ?_
  refine wp_region_list ?_
  simp only []
  refine wpList_step fun K hK => ?_
  go_simp
  refine hK _ _ ?_
  clear hK K
  refine wpList_step fun K hK => ?_
  go_simp
  refine (HD.out _).mono ?_
  rintro e u1 ⟨rfl, hx⟩
  simp only []
  refine hK _ _ ?_
  clear hK K
  refine wpList_step fun K hK => ?_
  go_simp
  refine hK _ _ ?_
  clear hK K
  refine wpList_store_row rfl 126 (.tmp 4) (.tmp 14) rfl u1.heap.size #[.int .u64 (L (D.num) 0), .int .u64 (L (D.num) 1), .int .u64 (L (D.num) 2), .int .u64 (L (D.num) 3), .int .u64 (L (D.num) 4), .int .u64 (L (D.num) 5), .int .u64 (L (D.below) 0), .int .u64 (L (D.below) 1), .int .u64 (L (D.below) 2), .int .u64 (L (D.below) 3), .int .u64 (L (D.below) 4), .int .u64 (L (D.below) 5), .int .u64 (L (D.above) 0), .int .u64 (L (D.above) 1), .int .u64 (L (D.above) 2), .int .u64 (L (D.above) 3), .int .u64 (L (D.above) 4), .int .u64 (L (D.above) 5), .int .u64 (L (D.size) 0), .int .u64 (L (D.size) 1), .int .u64 (L (D.size) 2), .int .u64 (L (D.size) 3), .int .u64 (L (D.size) 4), .int .u64 (L (D.size) 5), .int .i64 D.point] (by rfl) (by simp [Act.eval]) 126 #[.int .u64 0, .int .u64 0, .int .u64 0, .int .u64 0, .int .u64 0, .int .u64 0, .int .u64 0, .int .u64 0, .int .u64 0, .int .u64 0, .int .u64 0, .int .u64 0, .int .u64 0, .int .u64 0, .int .u64 0, .int .u64 0, .int .u64 0, .int .u64 0, .int .u64 0, .int .u64 0, .int .u64 0, .int .u64 0, .int .u64 0, .int .u64 0, .int .i64 0] (alloc_new _ _ rfl) (by kernel_rfl) (by rfl) (by simp [Value.oneCell']) ?_
  refine wpList_nil ?_
  simp only [Exit.then, Act.put]
  have SH0 : ∀ u2 : World, u2 = (u1.alloc (.cells #[.int .u64 0, .int .u64 0, .int .u64 0, .int .u64 0, .int .u64 0, .int .u64 0, .int .u64 0, .int .u64 0, .int .u64 0, .int .u64 0, .int .u64 0, .int .u64 0, .int .u64 0, .int .u64 0, .int .u64 0, .int .u64 0, .int .u64 0, .int .u64 0, .int .u64 0, .int .u64 0, .int .u64 0, .int .u64 0, .int .u64 0, .int .u64 0, .int .i64 0] 126)).setRow u1.heap.size #[.int .u64 (L (D.num) 0), .int .u64 (L (D.num) 1), .int .u64 (L (D.num) 2), .int .u64 (L (D.num) 3), .int .u64 (L (D.num) 4), .int .u64 (L (D.num) 5), .int .u64 (L (D.below) 0), .int .u64 (L (D.below) 1), .int .u64 (L (D.below) 2), .int .u64 (L (D.below) 3), .int .u64 (L (D.below) 4), .int .u64 (L (D.below) 5), .int .u64 (L (D.above) 0), .int .u64 (L (D.above) 1), .int .u64 (L (D.above) 2), .int .u64 (L (D.above) 3), .int .u64 (L (D.above) 4), .int .u64 (L (D.above) 5), .int .u64 (L (D.size) 0), .int .u64 (L (D.size) 1), .int .u64 (L (D.size) 2), .int .u64 (L (D.size) 3), .int .u64 (L (D.size) 4), .int .u64 (L (D.size) 5), .int .i64 D.point] → Dk u2 u1.heap.size (dV D) ∧ Ext u1 u2 ∧ u2.heap.size = u1.heap.size + 1 := by
    rintro u2 rfl
    exact ⟨dk_row (alloc_new _ _ rfl) (fun j hj => by rw [List.getElem?_toArray]; exact dF_list _ _ _ _ _ j hj), ((Ext.refl u1).alloc _).row (Nat.le_refl _), by simp [World.setRow]⟩
  generalize hu2 : (u1.alloc (.cells #[.int .u64 0, .int .u64 0, .int .u64 0, .int .u64 0, .int .u64 0, .int .u64 0, .int .u64 0, .int .u64 0, .int .u64 0, .int .u64 0, .int .u64 0, .int .u64 0, .int .u64 0, .int .u64 0, .int .u64 0, .int .u64 0, .int .u64 0, .int .u64 0, .int .u64 0, .int .u64 0, .int .u64 0, .int .u64 0, .int .u64 0, .int .u64 0, .int .i64 0] 126)).setRow u1.heap.size #[.int .u64 (L (D.num) 0), .int .u64 (L (D.num) 1), .int .u64 (L (D.num) 2), .int .u64 (L (D.num) 3), .int .u64 (L (D.num) 4), .int .u64 (L (D.num) 5), .int .u64 (L (D.below) 0), .int .u64 (L (D.below) 1), .int .u64 (L (D.below) 2), .int .u64 (L (D.below) 3), .int .u64 (L (D.below) 4), .int .u64 (L (D.below) 5), .int .u64 (L (D.above) 0), .int .u64 (L (D.above) 1), .int .u64 (L (D.above) 2), .int .u64 (L (D.above) 3), .int .u64 (L (D.above) 4), .int .u64 (L (D.above) 5), .int .u64 (L (D.size) 0), .int .u64 (L (D.size) 1), .int .u64 (L (D.size) 2), .int .u64 (L (D.size) 3), .int .u64 (L (D.size) 4), .int .u64 (L (D.size) 5), .int .i64 D.point] = u2 at *
  obtain ⟨dk, hx2, hz2⟩ := SH0 u2 rfl
  clear SH0 hu2
  have hx1 := hx
  have z1 := hx.size
  simp at z1
  have xm : u2.cell? ⟨w.heap.size, 0, none⟩ = some (.int .i64 m) := (hx2.cell 0 (by omega)).trans ((hx.cell 0 (by simp; try omega)).trans (by simp [go_sem]))
  have ct : u2.cell? ⟨w.heap.size + 1, 0, none⟩ = some (.string ⟨#[]⟩) := (hx2.cell 0 (by omega)).trans ((hx.cell 0 (by simp; try omega)).trans (by simp [go_sem]))
  have cf : u2.frozen? ⟨w.heap.size + 1, 0, none⟩ = false := (hx2.froz 0 (by omega)).trans ((hx.froz 0 (by simp; try omega)).trans (by simp [go_sem]))
  have EX := Lib.hid (((((Ext.refl w).alloc _).alloc _).trans hx).trans hx2)
  have CT := Lib.hid (And.intro ct cf)
  have DK := Lib.hid dk
  clear ct cf dk hx hx1 hx2
  obtain ⟨c0, c1, c2, c3, c4, c5⟩ := Dk.num DK.out
  obtain ⟨d0, d1, d2, d3, d4, d5⟩ := Dk.siz DK.out
  gi_wp2_with (fail)
  refine ⟨trivial, (callsIn_wide.2 (digits_mk D.num D.size _)).mono ?_⟩
  rintro e u3 ⟨rfl, rfl⟩
  gi_wp2_with (fail)
  clear c0 c1 c2 c3 c4 c5 d0 d1 d2 d3 d4 d5 xm
  have HS3 : ∀ W0 : World, W0 = (((u2.alloc (.cells #[.bool even] 4)).alloc (.cells #[.int .u64 (L (D.num) 0), .int .u64 (L (D.num) 1), .int .u64 (L (D.num) 2), .int .u64 (L (D.num) 3), .int .u64 (L (D.num) 4), .int .u64 (L (D.num) 5)] 118)).alloc (.cells #[.int .u64 (L (D.size) 0), .int .u64 (L (D.size) 1), .int .u64 (L (D.size) 2), .int .u64 (L (D.size) 3), .int .u64 (L (D.size) 4), .int .u64 (L (D.size) 5)] 118)) → Sh w u1.heap.size W0 (dV D) (bs []) even ∧ Six W0 (u1.heap.size + 2) (L D.num) ∧ Six W0 (u1.heap.size + 3) (L D.size) ∧ W0.heap.size = u1.heap.size + 4 := by
    rintro W0 rfl
    have X1 := (Ext.refl u2).alloc (.cells #[.bool even] 4)
    have X2 := X1.alloc (.cells #[.int .u64 (L (D.num) 0), .int .u64 (L (D.num) 1), .int .u64 (L (D.num) 2), .int .u64 (L (D.num) 3), .int .u64 (L (D.num) 4), .int .u64 (L (D.num) 5)] 118)
    have X3 := X2.alloc (.cells #[.int .u64 (L (D.size) 0), .int .u64 (L (D.size) 1), .int .u64 (L (D.size) 2), .int .u64 (L (D.size) 3), .int .u64 (L (D.size) 4), .int .u64 (L (D.size) 5)] 118)
    refine ⟨⟨DK.out.later X3, (X3.cell 0 (by omega)).trans CT.out.1, (X3.froz 0 (by omega)).trans CT.out.2, ?_, EX.out.trans X3, by omega⟩, ?_, ?_, by simp; omega⟩
    · have h0 : (u2.alloc (.cells #[.bool even] 4)).cell? ⟨u1.heap.size + 1, 0, none⟩ = some (.bool even) := by rw [← hz2]; simp [go_sem]
      exact ((((Ext.refl _).alloc _).alloc _).cell 0 (by simp; omega)).trans h0
    · have := six_new (u2.alloc (.cells #[.bool even] 4)) (L D.num) 118
      rw [World.size_alloc, hz2] at this
      exact this.later ((Ext.refl _).alloc _)
    · have := six_new ((u2.alloc (.cells #[.bool even] 4)).alloc (.cells #[.int .u64 (L (D.num) 0), .int .u64 (L (D.num) 1), .int .u64 (L (D.num) 2), .int .u64 (L (D.num) 3), .int .u64 (L (D.num) 4), .int .u64 (L (D.num) 5)] 118)) (L D.size) 118
      rw [World.size_alloc, World.size_alloc, hz2] at this
      exact this
  generalize hW0 : (((u2.alloc (.cells #[.bool even] 4)).alloc (.cells #[.int .u64 (L (D.num) 0), .int .u64 (L (D.num) 1), .int .u64 (L (D.num) 2), .int .u64 (L (D.num) 3), .int .u64 (L (D.num) 4), .int .u64 (L (D.num) 5)] 118)).alloc (.cells #[.int .u64 (L (D.size) 0), .int .u64 (L (D.size) 1), .int .u64 (L (D.size) 2), .int .u64 (L (D.size) 3), .int .u64 (L (D.size) 4), .int .u64 (L (D.size) 5)] 118)) = W0 at HS3 ⊢
  obtain ⟨sh0, sn0, ss0, sz0⟩ := HS3 W0 rfl
  clear HS3 hW0 hz2 DK CT EX
  have hs0 : 0 < D.size := by have := HP.out.1; omega
  refine range_digits (u1.heap.size + 2) (u1.heap.size + 3) D.size (by omega) hs0 HP.out.2.1.size (by omega) rfl (enters_of Tryz.func143 (by kernel_rfl) rfl) rfl
    (fun k n W => ∃ (bl ab : Nat) (t : List UInt8), Sh w u1.heap.size W (dF D.num bl ab D.size D.point) (bs t) even ∧ Six W (u1.heap.size + 2) (L n) ∧ Six W (u1.heap.size + 3) (L D.size) ∧ Hid (n < D.size ∧ bl < N6 ∧ ab < N6 ∧ t ++ txt (shortL even D.size k n bl ab) = txt (shortL even D.size 60 D.num D.below D.above) ∧ shortDone even D.size k n bl ab = true ∧ t.length + k ≤ 60))
    (fun k n W => ∃ (bl ab : Nat) (t : List UInt8), Sh w u1.heap.size W (dF D.num bl ab D.size D.point) (bs t) even ∧ Six W (u1.heap.size + 2) (L (n * 10 % M384 % D.size)) ∧ Six W (u1.heap.size + 3) (L D.size) ∧ Hid (n < D.size ∧ bl < N6 ∧ ab < N6 ∧ t ++ txt (shortL even D.size k n bl ab) = txt (shortL even D.size 60 D.num D.below D.above) ∧ shortDone even D.size k n bl ab = true ∧ t.length + k ≤ 60))
    (fun c W => c = .exit 0 ∧ ∃ (bl ab : Nat), Sh w u1.heap.size W (dF D.num bl ab D.size D.point) (bs (txt (shortL even D.size 60 D.num D.below D.above))) even)
    ?hI ?hI' ?hIx ?hsix ?hII 60 D.num ?hst ?hround ?hstop
  case hI =>
    rintro k n W W' row ⟨bl, ab, t, h1, h2, h3, h4⟩ hg hr
    exact ⟨bl, ab, t, h1.grown hg (fun x e => by have := (hr x e).1; omega), h2.turned hg (fun e => by have := (hr _ e).1; omega), h3.turned hg (fun e => by have := (hr _ e).1; omega), h4⟩
  case hI' =>
    rintro k n W W' row ⟨bl, ab, t, h1, h2, h3, h4⟩ hg hr
    exact ⟨bl, ab, t, h1.grown hg (fun x e => by have := (hr x e).1; omega), h2.turned hg (fun e => by have := (hr _ e).1; omega), h3.turned hg (fun e => by have := (hr _ e).1; omega), h4⟩
  case hIx =>
    rintro c W W' row ⟨h0, bl, ab, h1⟩ hg hr
    exact ⟨h0, bl, ab, h1.grown hg (fun x e => by have := (hr x e).1; omega)⟩
  case hsix =>
    rintro k n W ⟨bl, ab, t, h1, h2, h3, h4⟩
    exact ⟨h4.out.1, h2, h3⟩
  case hII =>
    rintro k n W W1 ⟨bl, ab, t, h1, h2, h3, h4⟩ hg hs
    exact ⟨bl, ab, t, h1.grown hg (fun x e => by cases e; omega), hs, h3.grown hg (by omega), h4⟩
  case hst =>
    exact ⟨D.below, D.above, [], sh0, sn0, ss0, Lib.hid ⟨HP.out.1, HP.out.2.1.below, HP.out.2.1.above, rfl, HP.out.2.2.1, by simp⟩⟩
  case hround =>
    rintro k mm W hm hlt ⟨bl, ab, t, h1, h2, h3, HQ⟩
    generalize hr' : mm * 10 % M384 % D.size = r at *
    generalize hq' : mm * 10 % M384 / D.size = q at *
    have HRQ := Lib.hid (And.intro hr' hq')
    have hrl : Hid (r < D.size) := Lib.hid (by rw [← hr']; exact Nat.mod_lt _ hs0)
    have hql : Hid (q ≤ 9) := Lib.hid (by
      rw [← hq']
      have e1 : mm * 10 % M384 ≤ mm * 10 := Nat.mod_le _ _
      have e2 : mm * 10 % M384 / D.size < 10 := Nat.div_lt_of_lt_mul (by omega)
      omega)
    clear hr' hq'
    gi_wp2
    refine ⟨KeepsOthers.alloc _ _, fun o' => ?_⟩
    have RD0 : ∀ v : World, v = (W.alloc (.cells #[.int .u64 (L r 0), .int .u64 (L r 1), .int .u64 (L r 2), .int .u64 (L r 3), .int .u64 (L r 4), .int .u64 (L r 5)] 118)).putObj (W0.heap.size + 1) o' → Rd w u1.heap.size W.heap.size (u1.heap.size + 2) (u1.heap.size + 3) v v (dF D.num bl ab D.size D.point) (bs t) even r D.size := by
      rintro v rfl
      have X := (Ext.refl W).alloc (.cells #[.int .u64 (L r 0), .int .u64 (L r 1), .int .u64 (L r 2), .int .u64 (L r 3), .int .u64 (L r 4), .int .u64 (L r 5)] 118)
      have G := grownBy_putObj' (W.alloc (.cells #[.int .u64 (L r 0), .int .u64 (L r 1), .int .u64 (L r 2), .int .u64 (L r 3), .int .u64 (L r 4), .int .u64 (L r 5)] 118)) (W0.heap.size + 1) o'
      refine ⟨(h1.later X).grown G (fun x e => by cases e; omega), (six_new W (L r) 118).turned G (fun e => by have := Option.some.inj e; omega), (h2.later X).turned G (fun e => by have := Option.some.inj e; omega), (h3.later X).turned G (fun e => by have := Option.some.inj e; omega), KeepsOthers.refl _, by omega, by omega, by omega⟩
    generalize (W.alloc (.cells #[.int .u64 (L r 0), .int .u64 (L r 1), .int .u64 (L r 2), .int .u64 (L r 3), .int .u64 (L r 4), .int .u64 (L r 5)] 118)).putObj (W0.heap.size + 1) o' = v at RD0 ⊢
    have RD := Lib.hid (RD0 v rfl)
    clear RD0 h1 h2 h3
    gi_upto_region 6 with (fail)
    refine wpIn_region_S (fun u' => Rd w u1.heap.size W.heap.size (u1.heap.size + 2) (u1.heap.size + 3) v u' (dF D.num bl ab D.size D.point) (bs t) even r D.size) 7 (by kernel_rfl) (by kernel_rfl) (fun h => h.elim fun _ h => h.elim fun _ h => h) ?_
    have HT := RD.out.drew
    clear RD
    refine GoS.take (i := 0) (v := ?_) rfl (by kernel_rfl) (by kernel_rfl) (by kernel_rfl) (by kernel_rfl) (fun _ _ _ h => h) (Or.inl ⟨by rfl, ?hy1⟩) HT ?_
    case hy1 => ((intro u' hT; skip; go_simp); try with_reducible rfl)
    try simp only [List.getElem_toArray, List.getElem_cons_zero, Act.put, List.setIfInBounds_toArray, List.set_cons_zero, List.set_cons_succ]
    refine GoS.take (i := 1) (v := ?_) rfl (by kernel_rfl) (by kernel_rfl) (by kernel_rfl) (by kernel_rfl) (fun _ _ _ h => h) (Or.inl ⟨by rfl, ?hy2⟩) HT ?_
    case hy2 => ((intro u' hT; obtain ⟨g0, g1, g2, g3, g4, g5⟩ := Dk.bel hT.sh.d; go_simp); try with_reducible rfl)
    try simp only [List.getElem_toArray, List.getElem_cons_succ, List.getElem_cons_zero, Act.put, List.setIfInBounds_toArray, List.set_cons_zero, List.set_cons_succ]
    refine GoS.take (i := 3) (v := ?_) rfl (by kernel_rfl) (by kernel_rfl) (by kernel_rfl) (by kernel_rfl) (fun _ _ _ h => h) (Or.inl ⟨by rfl, ?hy3⟩) HT ?_
    case hy3 => ((intro u' hT; skip; go_simp); try with_reducible rfl)
    try simp only [List.getElem_toArray, List.getElem_cons_succ, List.getElem_cons_zero, Act.put, List.setIfInBounds_toArray, List.set_cons_zero, List.set_cons_succ]
    refine GoS.take (i := 4) (v := ?_) rfl (by kernel_rfl) (by kernel_rfl) (by kernel_rfl) (by kernel_rfl) (fun _ _ _ h => h) (Or.inl ⟨by rfl, ?hy4⟩) HT ?_
    case hy4 => ((intro u' hT; obtain ⟨g0, g1, g2, g3, g4, g5⟩ := Dk.abv hT.sh.d; go_simp); try with_reducible rfl)
    try simp only [List.getElem_toArray, List.getElem_cons_succ, List.getElem_cons_zero, Act.put, List.setIfInBounds_toArray, List.set_cons_zero, List.set_cons_succ]
    refine GoS.one (i := 2) (by kernel_rfl) rfl (fun K hK => ?_)
    go_simp
    (with_reducible refine (times10m bl _).mono ?_)
    rintro e q5 ⟨rfl, hx5⟩
    have HT2 := HT.later hx5
    clear HT; have HT := HT2; clear HT2 hx5
    go_wp2_with fail
    refine hK.out _ _ HT (fun _ => ?_)
    clear hK K
    try simp only [List.getElem_toArray, List.getElem_cons_succ, List.getElem_cons_zero, Act.put, List.setIfInBounds_toArray, List.set_cons_zero, List.set_cons_succ]
    refine GoS.pure (i := 6) (v := ?_) rfl (by kernel_rfl) (by kernel_rfl) (by kernel_rfl) (by kernel_rfl) (fun _ _ _ h => h) (Or.inl ⟨by rfl, ?hy6⟩) (fun _ => HT) ?_
    case hy6 => ((intro u' hT; go_simp); try with_reducible rfl)
    try simp only [List.getElem_toArray, List.getElem_cons_succ, List.getElem_cons_zero, Act.put, List.setIfInBounds_toArray, List.set_cons_zero, List.set_cons_succ]
    refine GoS.one (i := 5) (by kernel_rfl) rfl (fun K hK => ?_)
    go_simp
    (with_reducible refine (times10m ab _).mono ?_)
    rintro e q7 ⟨rfl, hx7⟩
    have HT2 := HT.later hx7
    clear HT; have HT := HT2; clear HT2 hx7
    go_wp2_with fail
    refine hK.out _ _ HT (fun _ => ?_)
    clear hK K
    try simp only [List.getElem_toArray, List.getElem_cons_succ, List.getElem_cons_zero, Act.put, List.setIfInBounds_toArray, List.set_cons_zero, List.set_cons_succ]
    have RD := Lib.hid HT; clear HT
    refine GoS.store (i := 7) (by kernel_rfl) rfl (by kernel_rfl) (fun K hK => ?_)
    refine ite_pos (by kernel_rfl) ?_
    refine store_nat 118 (.tmp 32) (.tmp 28) rfl u1.heap.size 6 (bl * 10 % M384) ?a1s8 ?a2s8 ?a3s8 ?a4s8 ?a5s8
    case a1s8 => rfl
    case a3s8 => exact RD.out.sh.d.there (n := 6) (by decide)
    case a4s8 => kernel_rfl
    case a2s8 => rfl
    refine hK.out _ _ ?_
    clear hK K
    have RD2 := Lib.hid (RD.out.bel (bl * 10 % M384))
    clear RD; have RD := RD2; clear RD2
    generalize put6 _ u1.heap.size 6 (L (bl * 10 % M384)) = v8 at RD ⊢
    try simp only [List.getElem_toArray, List.getElem_cons_succ, List.getElem_cons_zero, Act.put]
    refine GoS.behind (i := 8) (v := ?_) rfl (by kernel_rfl) (by kernel_rfl) (by kernel_rfl) (by kernel_rfl) (fun _ _ _ h => h) (Or.inl ⟨by rfl, ?hy9⟩) (by kernel_rfl) ?_
    case hy9 => ((intro u' hT; go_simp); try with_reducible rfl)
    try simp only [List.getElem_toArray, List.getElem_cons_succ, List.getElem_cons_zero, Act.put, List.setIfInBounds_toArray, List.set_cons_zero, List.set_cons_succ]
    refine GoS.store (i := 9) (by kernel_rfl) rfl (by kernel_rfl) (fun K hK => ?_)
    refine ite_pos (by kernel_rfl) ?_
    refine store_nat 118 (.tmp 33) (.tmp 31) rfl u1.heap.size 12 (ab * 10 % M384) ?a1s10 ?a2s10 ?a3s10 ?a4s10 ?a5s10
    case a1s10 => rfl
    case a3s10 => exact RD.out.sh.d.there (n := 6) (by decide)
    case a4s10 => kernel_rfl
    case a2s10 => rfl
    refine hK.out _ _ ?_
    clear hK K
    have RD2 := Lib.hid (RD.out.abv (ab * 10 % M384))
    clear RD; have RD := RD2; clear RD2
    generalize put6 _ u1.heap.size 12 (L (ab * 10 % M384)) = v10 at RD ⊢
    try simp only [List.getElem_toArray, List.getElem_cons_succ, List.getElem_cons_zero, Act.put]
    refine GoS.done (by kernel_rfl) ?_
    have HBA : Hid (bl * 10 % M384 < N6 ∧ ab * 10 % M384 < N6) := Lib.hid ⟨mod_N6 _, mod_N6 _⟩
    gi_upto_region 7 with (fail)
    have hr6 : Hid (r < N6) := Lib.hid (Nat.lt_trans hrl.out HP.out.2.1.size)
    generalize hbl : bl * 10 % M384 = bl2 at RD HBA ⊢
    generalize hab : ab * 10 % M384 = ab2 at RD HBA ⊢
    have HAB := Lib.hid (And.intro hbl hab)
    clear hbl hab
    refine wpIn_region_S (fun u' => Rd w u1.heap.size W.heap.size (u1.heap.size + 2) (u1.heap.size + 3) v u' (dF D.num bl2 ab2 D.size D.point) (bs t) even r D.size) 12 (by kernel_rfl) (by kernel_rfl) (fun h => h.elim fun _ h => h.elim fun _ h => h) ?_
    have HT := RD.out.drew
    clear RD
    refine GoS.take (i := 0) (v := ?_) rfl (by kernel_rfl) (by kernel_rfl) (by kernel_rfl) (by kernel_rfl) (fun _ _ _ h => h) (Or.inl ⟨by rfl, ?hy11⟩) HT ?_
    case hy11 => ((intro u' hT; obtain ⟨g0, g1, g2, g3, g4, g5⟩ := Six.cells hT.fr; go_simp); try with_reducible rfl)
    try simp only [List.getElem_toArray, List.getElem_cons_zero, Act.put, List.setIfInBounds_toArray, List.set_cons_zero, List.set_cons_succ]
    refine GoS.take (i := 1) (v := ?_) rfl (by kernel_rfl) (by kernel_rfl) (by kernel_rfl) (by kernel_rfl) (fun _ _ _ h => h) (Or.inl ⟨by rfl, ?hy12⟩) HT ?_
    case hy12 => ((intro u' hT; skip; go_simp); try with_reducible rfl)
    try simp only [List.getElem_toArray, List.getElem_cons_succ, List.getElem_cons_zero, Act.put, List.setIfInBounds_toArray, List.set_cons_zero, List.set_cons_succ]
    refine GoS.take (i := 2) (v := ?_) rfl (by kernel_rfl) (by kernel_rfl) (by kernel_rfl) (by kernel_rfl) (fun _ _ _ h => h) (Or.inl ⟨by rfl, ?hy13⟩) HT ?_
    case hy13 => ((intro u' hT; obtain ⟨g0, g1, g2, g3, g4, g5⟩ := Dk.bel hT.sh.d; go_simp); try with_reducible rfl)
    try simp only [List.getElem_toArray, List.getElem_cons_succ, List.getElem_cons_zero, Act.put, List.setIfInBounds_toArray, List.set_cons_zero, List.set_cons_succ]
    refine GoS.take (i := 4) (v := ?_) rfl (by kernel_rfl) (by kernel_rfl) (by kernel_rfl) (by kernel_rfl) (fun _ _ _ h => h) (Or.inl ⟨by rfl, ?hy14⟩) HT ?_
    case hy14 => ((intro u' hT; obtain ⟨g0, g1, g2, g3, g4, g5⟩ := Six.cells hT.fr; go_simp); try with_reducible rfl)
    try simp only [List.getElem_toArray, List.getElem_cons_succ, List.getElem_cons_zero, Act.put, List.setIfInBounds_toArray, List.set_cons_zero, List.set_cons_succ]
    refine GoS.take (i := 5) (v := ?_) rfl (by kernel_rfl) (by kernel_rfl) (by kernel_rfl) (by kernel_rfl) (fun _ _ _ h => h) (Or.inl ⟨by rfl, ?hy15⟩) HT ?_
    case hy15 => ((intro u' hT; skip; go_simp); try with_reducible rfl)
    try simp only [List.getElem_toArray, List.getElem_cons_succ, List.getElem_cons_zero, Act.put, List.setIfInBounds_toArray, List.set_cons_zero, List.set_cons_succ]
    refine GoS.take (i := 6) (v := ?_) rfl (by kernel_rfl) (by kernel_rfl) (by kernel_rfl) (by kernel_rfl) (fun _ _ _ h => h) (Or.inl ⟨by rfl, ?hy16⟩) HT ?_
    case hy16 => ((intro u' hT; obtain ⟨g0, g1, g2, g3, g4, g5⟩ := Dk.abv hT.sh.d; go_simp); try with_reducible rfl)
    try simp only [List.getElem_toArray, List.getElem_cons_succ, List.getElem_cons_zero, Act.put, List.setIfInBounds_toArray, List.set_cons_zero, List.set_cons_succ]
    refine GoS.take (i := 8) (v := ?_) rfl (by kernel_rfl) (by kernel_rfl) (by kernel_rfl) (by kernel_rfl) (fun _ _ _ h => h) (Or.inl ⟨by rfl, ?hy17⟩) HT ?_
    case hy17 => ((intro u' hT; skip; go_simp); try with_reducible rfl)
    try simp only [List.getElem_toArray, List.getElem_cons_succ, List.getElem_cons_zero, Act.put, List.setIfInBounds_toArray, List.set_cons_zero, List.set_cons_succ]
    refine GoS.take (i := 9) (v := ?_) rfl (by kernel_rfl) (by kernel_rfl) (by kernel_rfl) (by kernel_rfl) (fun _ _ _ h => h) (Or.inl ⟨by rfl, ?hy18⟩) HT ?_
    case hy18 => ((intro u' hT; obtain ⟨g0, g1, g2, g3, g4, g5⟩ := Dk.siz hT.sh.d; go_simp); try with_reducible rfl)
    try simp only [List.getElem_toArray, List.getElem_cons_succ, List.getElem_cons_zero, Act.put, List.setIfInBounds_toArray, List.set_cons_zero, List.set_cons_succ]
    refine GoS.one (i := 3) (by kernel_rfl) rfl (fun K hK => ?_)
    go_simp
    (with_reducible refine (compare_any r bl2 hr6.out HBA.out.1 _).mono ?_)
    rintro e q19 ⟨rfl, hx19⟩
    have HT2 := HT.later hx19
    clear HT; have HT := HT2; clear HT2 hx19
    go_wp2_with fail
    refine hK.out _ _ HT (fun _ => ?_)
    clear hK K
    try simp only [List.getElem_toArray, List.getElem_cons_succ, List.getElem_cons_zero, Act.put, List.setIfInBounds_toArray, List.set_cons_zero, List.set_cons_succ]
    refine GoS.one (i := 7) (by kernel_rfl) rfl (fun K hK => ?_)
    go_simp
    (with_reducible refine (plusm r ab2 _).mono ?_)
    rintro e q20 ⟨rfl, hx20⟩
    have HT2 := HT.later hx20
    clear HT; have HT := HT2; clear HT2 hx20
    go_wp2_with fail
    refine hK.out _ _ HT (fun _ => ?_)
    clear hK K
    try simp only [List.getElem_toArray, List.getElem_cons_succ, List.getElem_cons_zero, Act.put, List.setIfInBounds_toArray, List.set_cons_zero, List.set_cons_succ]
    refine GoS.one (i := 10) (by kernel_rfl) rfl (fun K hK => ?_)
    go_simp
    (with_reducible refine (compare_any ((r + ab2) % M384) D.size (mod_N6 _) HP.out.2.1.size _).mono ?_)
    rintro e q21 ⟨rfl, hx21⟩
    have HT2 := HT.later hx21
    clear HT; have HT := HT2; clear HT2 hx21
    go_wp2_with fail
    refine hK.out _ _ HT (fun _ => ?_)
    clear hK K
    try simp only [List.getElem_toArray, List.getElem_cons_succ, List.getElem_cons_zero, Act.put, List.setIfInBounds_toArray, List.set_cons_zero, List.set_cons_succ]
    refine GoS.pure (i := 11) (v := ?_) rfl (by kernel_rfl) (by kernel_rfl) (by kernel_rfl) (by kernel_rfl) (fun _ _ _ h => h) (Or.inl ⟨by rfl, ?hy22⟩) (fun _ => HT) ?_
    case hy22 => ((intro u' hT; go_simp); try with_reducible rfl)
    try simp only [List.getElem_toArray, List.getElem_cons_succ, List.getElem_cons_zero, Act.put, List.setIfInBounds_toArray, List.set_cons_zero, List.set_cons_succ]
    refine GoS.store (i := 12) (by kernel_rfl) rfl (by kernel_rfl) (fun K hK => ?_)
    go_simp
    refine hK.out _ _ ?_
    clear hK K
    try simp only [List.getElem_toArray, List.getElem_cons_succ, List.getElem_cons_zero, Act.put, List.setIfInBounds_toArray, List.set_cons_zero, List.set_cons_succ]
    refine GoS.done (by kernel_rfl) ?_
    have RD := Lib.hid HT; clear HT
    obtain ⟨lo, hlo⟩ : ∃ lo, cmpN r bl2 = lo := ⟨_, rfl⟩
    obtain ⟨hi, hhi⟩ : ∃ hi, cmpN ((r + ab2) % M384) D.size = hi := ⟨_, rfl⟩
    have HLH : Hid ((lo < 0 ↔ r < bl2) ∧ (lo = 0 ↔ r = bl2) ∧ (hi > 0 ↔ D.size < (r + ab2) % M384) ∧ (hi = 0 ↔ (r + ab2) % M384 = D.size)) := Lib.hid (by rw [← hlo, ← hhi]; exact ⟨cmpN_lt, cmpN_eq, cmpN_gt, cmpN_eq⟩)
    rw [hlo, hhi]
    clear hlo hhi
    gi_upto_region 8 with (fail)
    gi_cut [10, 11] from 45 (fun s10 s11 wc => s10 = .bool (dnB even r bl2) ∧ s11 = .bool (hiB even ((r + ab2) % M384) D.size) ∧ Hid (Rd w u1.heap.size W.heap.size (u1.heap.size + 2) (u1.heap.size + 3) v wc (dF D.num bl2 ab2 D.size D.point) (bs t) even r D.size))
    case first =>
      rcases (show lo < 0 ∨ lo = 0 ∨ 0 < lo by omega) with ho | ho | ho <;> rcases (show hi > 0 ∨ hi = 0 ∨ hi < 0 by omega) with hh | hh | hh
      · refine wpIn_region_S (fun u' => Rd w u1.heap.size W.heap.size (u1.heap.size + 2) (u1.heap.size + 3) v u' (dF D.num bl2 ab2 D.size D.point) (bs t) even r D.size) 19 (by kernel_rfl) (by kernel_rfl) (fun h => h.elim fun _ h => h.elim fun _ h => h) ?_
        have HT := RD.out.drew
        clear RD
        refine GoS.pure (i := 0) (v := ?_) rfl (by kernel_rfl) (by kernel_rfl) (by kernel_rfl) (by kernel_rfl) (fun _ _ _ h => h) (Or.inl ⟨by rfl, ?hy23⟩) (fun _ => HT) ?_
        case hy23 => ((intro u' hT; go_simp); try with_reducible rfl)
        try simp only [List.getElem_toArray, List.getElem_cons_zero, Act.put, List.setIfInBounds_toArray, List.set_cons_zero, List.set_cons_succ]
        refine GoS.pure (i := 1) (v := ?_) rfl (by kernel_rfl) (by kernel_rfl) (by kernel_rfl) (by kernel_rfl) (fun _ _ _ h => h) (Or.inl ⟨by rfl, ?hy24⟩) (fun _ => HT) ?_
        case hy24 => ((intro u' hT; go_simp); try with_reducible rfl)
        try simp only [List.getElem_toArray, List.getElem_cons_succ, List.getElem_cons_zero, Act.put, List.setIfInBounds_toArray, List.set_cons_zero, List.set_cons_succ]
        refine GoS.pure (i := 2) (v := ?_) rfl (by kernel_rfl) (by kernel_rfl) (by kernel_rfl) (by kernel_rfl) (fun _ _ _ h => h) (Or.inl ⟨by rfl, ?hy25⟩) (fun _ => HT) ?_
        case hy25 => ((intro u' hT; go_simp); try with_reducible rfl)
        try simp only [List.getElem_toArray, List.getElem_cons_succ, List.getElem_cons_zero, Act.put, List.setIfInBounds_toArray, List.set_cons_zero, List.set_cons_succ]
        refine GoS.pure (i := 3) (v := undef) rfl (by kernel_rfl) (by kernel_rfl) (by kernel_rfl) (by kernel_rfl) (fun _ _ _ h => h) (Or.inr ⟨by rfl, rfl⟩) (fun _ => HT) ?_
        try simp only [List.getElem_toArray, List.getElem_cons_succ, List.getElem_cons_zero, Act.put, List.setIfInBounds_toArray, List.set_cons_zero, List.set_cons_succ]
        refine GoS.pure (i := 4) (v := undef) rfl (by kernel_rfl) (by kernel_rfl) (by kernel_rfl) (by kernel_rfl) (fun _ _ _ h => h) (Or.inr ⟨by rfl, rfl⟩) (fun _ => HT) ?_
        try simp only [List.getElem_toArray, List.getElem_cons_succ, List.getElem_cons_zero, Act.put, List.setIfInBounds_toArray, List.set_cons_zero, List.set_cons_succ]
        refine GoS.pure (i := 5) (v := undef) rfl (by kernel_rfl) (by kernel_rfl) (by kernel_rfl) (by kernel_rfl) (fun _ _ _ h => h) (Or.inr ⟨by rfl, rfl⟩) (fun _ => HT) ?_
        try simp only [List.getElem_toArray, List.getElem_cons_succ, List.getElem_cons_zero, Act.put, List.setIfInBounds_toArray, List.set_cons_zero, List.set_cons_succ]
        refine GoS.pure (i := 6) (v := undef) rfl (by kernel_rfl) (by kernel_rfl) (by kernel_rfl) (by kernel_rfl) (fun _ _ _ h => h) (Or.inr ⟨by rfl, rfl⟩) (fun _ => HT) ?_
        try simp only [List.getElem_toArray, List.getElem_cons_succ, List.getElem_cons_zero, Act.put, List.setIfInBounds_toArray, List.set_cons_zero, List.set_cons_succ]
        refine GoS.pure (i := 7) (v := undef) rfl (by kernel_rfl) (by kernel_rfl) (by kernel_rfl) (by kernel_rfl) (fun _ _ _ h => h) (Or.inr ⟨by rfl, rfl⟩) (fun _ => HT) ?_
        try simp only [List.getElem_toArray, List.getElem_cons_succ, List.getElem_cons_zero, Act.put, List.setIfInBounds_toArray, List.set_cons_zero, List.set_cons_succ]
        refine GoS.pure (i := 8) (v := ?_) rfl (by kernel_rfl) (by kernel_rfl) (by kernel_rfl) (by kernel_rfl) (fun _ _ _ h => h) (Or.inl ⟨by rfl, ?hy26⟩) (fun _ => HT) ?_
        case hy26 => ((intro u' hT; go_simp); try with_reducible rfl)
        try simp only [List.getElem_toArray, List.getElem_cons_succ, List.getElem_cons_zero, Act.put, List.setIfInBounds_toArray, List.set_cons_zero, List.set_cons_succ]
        refine GoS.pure (i := 9) (v := ?_) rfl (by kernel_rfl) (by kernel_rfl) (by kernel_rfl) (by kernel_rfl) (fun _ _ _ h => h) (Or.inl ⟨by rfl, ?hy27⟩) (fun _ => HT) ?_
        case hy27 => ((intro u' hT; go_simp); try with_reducible rfl)
        try simp only [List.getElem_toArray, List.getElem_cons_succ, List.getElem_cons_zero, Act.put, List.setIfInBounds_toArray, List.set_cons_zero, List.set_cons_succ]
        refine GoS.pure (i := 10) (v := ?_) rfl (by kernel_rfl) (by kernel_rfl) (by kernel_rfl) (by kernel_rfl) (fun _ _ _ h => h) (Or.inl ⟨by rfl, ?hy28⟩) (fun _ => HT) ?_
        case hy28 => ((intro u' hT; go_simp); try with_reducible rfl)
        try simp only [List.getElem_toArray, List.getElem_cons_succ, List.getElem_cons_zero, Act.put, List.setIfInBounds_toArray, List.set_cons_zero, List.set_cons_succ]
        refine GoS.pure (i := 11) (v := ?_) rfl (by kernel_rfl) (by kernel_rfl) (by kernel_rfl) (by kernel_rfl) (fun _ _ _ h => h) (Or.inl ⟨by rfl, ?hy29⟩) (fun _ => HT) ?_
        case hy29 => ((intro u' hT; go_simp); try with_reducible rfl)
        try simp only [List.getElem_toArray, List.getElem_cons_succ, List.getElem_cons_zero, Act.put, List.setIfInBounds_toArray, List.set_cons_zero, List.set_cons_succ]
        refine GoS.pure (i := 12) (v := undef) rfl (by kernel_rfl) (by kernel_rfl) (by kernel_rfl) (by kernel_rfl) (fun _ _ _ h => h) (Or.inr ⟨by rfl, rfl⟩) (fun _ => HT) ?_
        try simp only [List.getElem_toArray, List.getElem_cons_succ, List.getElem_cons_zero, Act.put, List.setIfInBounds_toArray, List.set_cons_zero, List.set_cons_succ]
        refine GoS.pure (i := 13) (v := undef) rfl (by kernel_rfl) (by kernel_rfl) (by kernel_rfl) (by kernel_rfl) (fun _ _ _ h => h) (Or.inr ⟨by rfl, rfl⟩) (fun _ => HT) ?_
        try simp only [List.getElem_toArray, List.getElem_cons_succ, List.getElem_cons_zero, Act.put, List.setIfInBounds_toArray, List.set_cons_zero, List.set_cons_succ]
        refine GoS.pure (i := 14) (v := undef) rfl (by kernel_rfl) (by kernel_rfl) (by kernel_rfl) (by kernel_rfl) (fun _ _ _ h => h) (Or.inr ⟨by rfl, rfl⟩) (fun _ => HT) ?_
        try simp only [List.getElem_toArray, List.getElem_cons_succ, List.getElem_cons_zero, Act.put, List.setIfInBounds_toArray, List.set_cons_zero, List.set_cons_succ]
        refine GoS.pure (i := 15) (v := undef) rfl (by kernel_rfl) (by kernel_rfl) (by kernel_rfl) (by kernel_rfl) (fun _ _ _ h => h) (Or.inr ⟨by rfl, rfl⟩) (fun _ => HT) ?_
        try simp only [List.getElem_toArray, List.getElem_cons_succ, List.getElem_cons_zero, Act.put, List.setIfInBounds_toArray, List.set_cons_zero, List.set_cons_succ]
        refine GoS.pure (i := 16) (v := undef) rfl (by kernel_rfl) (by kernel_rfl) (by kernel_rfl) (by kernel_rfl) (fun _ _ _ h => h) (Or.inr ⟨by rfl, rfl⟩) (fun _ => HT) ?_
        try simp only [List.getElem_toArray, List.getElem_cons_succ, List.getElem_cons_zero, Act.put, List.setIfInBounds_toArray, List.set_cons_zero, List.set_cons_succ]
        refine GoS.pure (i := 17) (v := ?_) rfl (by kernel_rfl) (by kernel_rfl) (by kernel_rfl) (by kernel_rfl) (fun _ _ _ h => h) (Or.inl ⟨by rfl, ?hy30⟩) (fun _ => HT) ?_
        case hy30 => ((intro u' hT; go_simp); try with_reducible rfl)
        try simp only [List.getElem_toArray, List.getElem_cons_succ, List.getElem_cons_zero, Act.put, List.setIfInBounds_toArray, List.set_cons_zero, List.set_cons_succ]
        refine GoS.pure (i := 18) (v := ?_) rfl (by kernel_rfl) (by kernel_rfl) (by kernel_rfl) (by kernel_rfl) (fun _ _ _ h => h) (Or.inl ⟨by rfl, ?hy31⟩) (fun _ => HT) ?_
        case hy31 => ((intro u' hT; go_simp); try with_reducible rfl)
        try simp only [List.getElem_toArray, List.getElem_cons_succ, List.getElem_cons_zero, Act.put, List.setIfInBounds_toArray, List.set_cons_zero, List.set_cons_succ]
        refine GoS.store (i := 19) (by kernel_rfl) rfl (by kernel_rfl) (fun K hK => ?_)
        go_simp
        refine hK.out _ _ ?_
        clear hK K
        try simp only [List.getElem_toArray, List.getElem_cons_succ, List.getElem_cons_zero, Act.put, List.setIfInBounds_toArray, List.set_cons_zero, List.set_cons_succ]
        refine GoS.done (by kernel_rfl) ?_
        gi_wp2_with (fail)
        gi_meet
        have KK := HLH.out; (try have ho := HO.out); (try have hh := HH.out)
        refine ⟨?_, ?_, Lib.hid HT⟩
        · unfold dnB; rw [decide_eq_true (KK.1.1 (by omega))]; rfl
        · unfold hiB; rw [decide_eq_true (KK.2.2.1.1 (by omega))]; rfl
      · have hh1 : (hi == 0) = true := by simp [hh]
        have hh2 : ¬ hi > 0 := by omega
        have HH := Lib.hid hh; clear hh
        refine wpIn_region_S (fun u' => Rd w u1.heap.size W.heap.size (u1.heap.size + 2) (u1.heap.size + 3) v u' (dF D.num bl2 ab2 D.size D.point) (bs t) even r D.size) 19 (by kernel_rfl) (by kernel_rfl) (fun h => h.elim fun _ h => h.elim fun _ h => h) ?_
        have HT := RD.out.drew
        clear RD
        refine GoS.pure (i := 0) (v := ?_) rfl (by kernel_rfl) (by kernel_rfl) (by kernel_rfl) (by kernel_rfl) (fun _ _ _ h => h) (Or.inl ⟨by rfl, ?hy32⟩) (fun _ => HT) ?_
        case hy32 => ((intro u' hT; go_simp); try with_reducible rfl)
        try simp only [List.getElem_toArray, List.getElem_cons_zero, Act.put, List.setIfInBounds_toArray, List.set_cons_zero, List.set_cons_succ]
        refine GoS.pure (i := 1) (v := ?_) rfl (by kernel_rfl) (by kernel_rfl) (by kernel_rfl) (by kernel_rfl) (fun _ _ _ h => h) (Or.inl ⟨by rfl, ?hy33⟩) (fun _ => HT) ?_
        case hy33 => ((intro u' hT; go_simp); try with_reducible rfl)
        try simp only [List.getElem_toArray, List.getElem_cons_succ, List.getElem_cons_zero, Act.put, List.setIfInBounds_toArray, List.set_cons_zero, List.set_cons_succ]
        refine GoS.pure (i := 2) (v := ?_) rfl (by kernel_rfl) (by kernel_rfl) (by kernel_rfl) (by kernel_rfl) (fun _ _ _ h => h) (Or.inl ⟨by rfl, ?hy34⟩) (fun _ => HT) ?_
        case hy34 => ((intro u' hT; go_simp); try with_reducible rfl)
        try simp only [List.getElem_toArray, List.getElem_cons_succ, List.getElem_cons_zero, Act.put, List.setIfInBounds_toArray, List.set_cons_zero, List.set_cons_succ]
        refine GoS.pure (i := 3) (v := undef) rfl (by kernel_rfl) (by kernel_rfl) (by kernel_rfl) (by kernel_rfl) (fun _ _ _ h => h) (Or.inr ⟨by rfl, rfl⟩) (fun _ => HT) ?_
        try simp only [List.getElem_toArray, List.getElem_cons_succ, List.getElem_cons_zero, Act.put, List.setIfInBounds_toArray, List.set_cons_zero, List.set_cons_succ]
        refine GoS.pure (i := 4) (v := undef) rfl (by kernel_rfl) (by kernel_rfl) (by kernel_rfl) (by kernel_rfl) (fun _ _ _ h => h) (Or.inr ⟨by rfl, rfl⟩) (fun _ => HT) ?_
        try simp only [List.getElem_toArray, List.getElem_cons_succ, List.getElem_cons_zero, Act.put, List.setIfInBounds_toArray, List.set_cons_zero, List.set_cons_succ]
        refine GoS.pure (i := 5) (v := undef) rfl (by kernel_rfl) (by kernel_rfl) (by kernel_rfl) (by kernel_rfl) (fun _ _ _ h => h) (Or.inr ⟨by rfl, rfl⟩) (fun _ => HT) ?_
        try simp only [List.getElem_toArray, List.getElem_cons_succ, List.getElem_cons_zero, Act.put, List.setIfInBounds_toArray, List.set_cons_zero, List.set_cons_succ]
        refine GoS.pure (i := 6) (v := undef) rfl (by kernel_rfl) (by kernel_rfl) (by kernel_rfl) (by kernel_rfl) (fun _ _ _ h => h) (Or.inr ⟨by rfl, rfl⟩) (fun _ => HT) ?_
        try simp only [List.getElem_toArray, List.getElem_cons_succ, List.getElem_cons_zero, Act.put, List.setIfInBounds_toArray, List.set_cons_zero, List.set_cons_succ]
        refine GoS.pure (i := 7) (v := undef) rfl (by kernel_rfl) (by kernel_rfl) (by kernel_rfl) (by kernel_rfl) (fun _ _ _ h => h) (Or.inr ⟨by rfl, rfl⟩) (fun _ => HT) ?_
        try simp only [List.getElem_toArray, List.getElem_cons_succ, List.getElem_cons_zero, Act.put, List.setIfInBounds_toArray, List.set_cons_zero, List.set_cons_succ]
        refine GoS.pure (i := 8) (v := ?_) rfl (by kernel_rfl) (by kernel_rfl) (by kernel_rfl) (by kernel_rfl) (fun _ _ _ h => h) (Or.inl ⟨by rfl, ?hy35⟩) (fun _ => HT) ?_
        case hy35 => ((intro u' hT; go_simp); try with_reducible rfl)
        try simp only [List.getElem_toArray, List.getElem_cons_succ, List.getElem_cons_zero, Act.put, List.setIfInBounds_toArray, List.set_cons_zero, List.set_cons_succ]
        refine GoS.pure (i := 9) (v := ?_) rfl (by kernel_rfl) (by kernel_rfl) (by kernel_rfl) (by kernel_rfl) (fun _ _ _ h => h) (Or.inl ⟨by rfl, ?hy36⟩) (fun _ => HT) ?_
        case hy36 => ((intro u' hT; go_simp); try with_reducible rfl)
        try simp only [List.getElem_toArray, List.getElem_cons_succ, List.getElem_cons_zero, Act.put, List.setIfInBounds_toArray, List.set_cons_zero, List.set_cons_succ]
        refine GoS.pure (i := 10) (v := ?_) rfl (by kernel_rfl) (by kernel_rfl) (by kernel_rfl) (by kernel_rfl) (fun _ _ _ h => h) (Or.inl ⟨by rfl, ?hy37⟩) (fun _ => HT) ?_
        case hy37 => ((intro u' hT; go_simp); try with_reducible rfl)
        try simp only [List.getElem_toArray, List.getElem_cons_succ, List.getElem_cons_zero, Act.put, List.setIfInBounds_toArray, List.set_cons_zero, List.set_cons_succ]
        refine GoS.pure (i := 11) (v := ?_) rfl (by kernel_rfl) (by kernel_rfl) (by kernel_rfl) (by kernel_rfl) (fun _ _ _ h => h) (Or.inl ⟨by rfl, ?hy38⟩) (fun _ => HT) ?_
        case hy38 => ((intro u' hT; go_simp); try with_reducible rfl)
        try simp only [List.getElem_toArray, List.getElem_cons_succ, List.getElem_cons_zero, Act.put, List.setIfInBounds_toArray, List.set_cons_zero, List.set_cons_succ]
        refine GoS.pure (i := 12) (v := ?_) rfl (by kernel_rfl) (by kernel_rfl) (by kernel_rfl) (by kernel_rfl) (fun _ _ _ h => h) (Or.inl ⟨by rfl, ?hy39⟩) (fun _ => HT) ?_
        case hy39 => ((intro u' hT; go_simp); try with_reducible rfl)
        try simp only [List.getElem_toArray, List.getElem_cons_succ, List.getElem_cons_zero, Act.put, List.setIfInBounds_toArray, List.set_cons_zero, List.set_cons_succ]
        refine GoS.pure (i := 13) (v := ?_) rfl (by kernel_rfl) (by kernel_rfl) (by kernel_rfl) (by kernel_rfl) (fun _ _ _ h => h) (Or.inl ⟨by rfl, ?hy40⟩) (fun _ => HT) ?_
        case hy40 => ((intro u' hT; go_simp); try with_reducible rfl)
        try simp only [List.getElem_toArray, List.getElem_cons_succ, List.getElem_cons_zero, Act.put, List.setIfInBounds_toArray, List.set_cons_zero, List.set_cons_succ]
        refine GoS.pure (i := 14) (v := ?_) rfl (by kernel_rfl) (by kernel_rfl) (by kernel_rfl) (by kernel_rfl) (fun _ _ _ h => h) (Or.inl ⟨by rfl, ?hy41⟩) (fun _ => HT) ?_
        case hy41 => ((intro u' hT; go_simp); try with_reducible rfl)
        try simp only [List.getElem_toArray, List.getElem_cons_succ, List.getElem_cons_zero, Act.put, List.setIfInBounds_toArray, List.set_cons_zero, List.set_cons_succ]
        refine GoS.take (i := 15) (v := ?_) rfl (by kernel_rfl) (by kernel_rfl) (by kernel_rfl) (by kernel_rfl) (fun _ _ _ h => h) (Or.inl ⟨by rfl, ?hy42⟩) HT ?_
        case hy42 => ((intro u' hT; have gev := hT.sh.ev; go_simp); try with_reducible rfl)
        try simp only [List.getElem_toArray, List.getElem_cons_succ, List.getElem_cons_zero, Act.put, List.setIfInBounds_toArray, List.set_cons_zero, List.set_cons_succ]
        refine GoS.pure (i := 16) (v := ?_) rfl (by kernel_rfl) (by kernel_rfl) (by kernel_rfl) (by kernel_rfl) (fun _ _ _ h => h) (Or.inl ⟨by rfl, ?hy43⟩) (fun _ => HT) ?_
        case hy43 => ((intro u' hT; go_simp); try with_reducible rfl)
        try simp only [List.getElem_toArray, List.getElem_cons_succ, List.getElem_cons_zero, Act.put, List.setIfInBounds_toArray, List.set_cons_zero, List.set_cons_succ]
        refine GoS.pure (i := 17) (v := ?_) rfl (by kernel_rfl) (by kernel_rfl) (by kernel_rfl) (by kernel_rfl) (fun _ _ _ h => h) (Or.inl ⟨by rfl, ?hy44⟩) (fun _ => HT) ?_
        case hy44 => ((intro u' hT; go_simp); try with_reducible rfl)
        try simp only [List.getElem_toArray, List.getElem_cons_succ, List.getElem_cons_zero, Act.put, List.setIfInBounds_toArray, List.set_cons_zero, List.set_cons_succ]
        refine GoS.pure (i := 18) (v := ?_) rfl (by kernel_rfl) (by kernel_rfl) (by kernel_rfl) (by kernel_rfl) (fun _ _ _ h => h) (Or.inl ⟨by rfl, ?hy45⟩) (fun _ => HT) ?_
        case hy45 => ((intro u' hT; go_simp); try with_reducible rfl)
        try simp only [List.getElem_toArray, List.getElem_cons_succ, List.getElem_cons_zero, Act.put, List.setIfInBounds_toArray, List.set_cons_zero, List.set_cons_succ]
        refine GoS.store (i := 19) (by kernel_rfl) rfl (by kernel_rfl) (fun K hK => ?_)
        go_simp
        refine hK.out _ _ ?_
        clear hK K
        try simp only [List.getElem_toArray, List.getElem_cons_succ, List.getElem_cons_zero, Act.put, List.setIfInBounds_toArray, List.set_cons_zero, List.set_cons_succ]
        refine GoS.done (by kernel_rfl) ?_
        gi_wp2_with (fail)
        gi_meet
        have KK := HLH.out; (try have ho := HO.out); (try have hh := HH.out)
        refine ⟨?_, ?_, Lib.hid HT⟩
        · unfold dnB; rw [decide_eq_true (KK.1.1 (by omega))]; rfl
        · unfold hiB; rw [decide_eq_false (fun e => by have := KK.2.2.1.2 e; omega), decide_eq_true (KK.2.2.2.1 (by omega))]; simp
      · have hh1 : (hi == 0) = false := by simp; omega
        have hh2 : ¬ hi > 0 := by omega
        refine wpIn_region_S (fun u' => Rd w u1.heap.size W.heap.size (u1.heap.size + 2) (u1.heap.size + 3) v u' (dF D.num bl2 ab2 D.size D.point) (bs t) even r D.size) 19 (by kernel_rfl) (by kernel_rfl) (fun h => h.elim fun _ h => h.elim fun _ h => h) ?_
        have HT := RD.out.drew
        clear RD
        refine GoS.pure (i := 0) (v := ?_) rfl (by kernel_rfl) (by kernel_rfl) (by kernel_rfl) (by kernel_rfl) (fun _ _ _ h => h) (Or.inl ⟨by rfl, ?hy46⟩) (fun _ => HT) ?_
        case hy46 => ((intro u' hT; go_simp); try with_reducible rfl)
        try simp only [List.getElem_toArray, List.getElem_cons_zero, Act.put, List.setIfInBounds_toArray, List.set_cons_zero, List.set_cons_succ]
        refine GoS.pure (i := 1) (v := ?_) rfl (by kernel_rfl) (by kernel_rfl) (by kernel_rfl) (by kernel_rfl) (fun _ _ _ h => h) (Or.inl ⟨by rfl, ?hy47⟩) (fun _ => HT) ?_
        case hy47 => ((intro u' hT; go_simp); try with_reducible rfl)
        try simp only [List.getElem_toArray, List.getElem_cons_succ, List.getElem_cons_zero, Act.put, List.setIfInBounds_toArray, List.set_cons_zero, List.set_cons_succ]
        refine GoS.pure (i := 2) (v := ?_) rfl (by kernel_rfl) (by kernel_rfl) (by kernel_rfl) (by kernel_rfl) (fun _ _ _ h => h) (Or.inl ⟨by rfl, ?hy48⟩) (fun _ => HT) ?_
        case hy48 => ((intro u' hT; go_simp); try with_reducible rfl)
        try simp only [List.getElem_toArray, List.getElem_cons_succ, List.getElem_cons_zero, Act.put, List.setIfInBounds_toArray, List.set_cons_zero, List.set_cons_succ]
        refine GoS.pure (i := 3) (v := undef) rfl (by kernel_rfl) (by kernel_rfl) (by kernel_rfl) (by kernel_rfl) (fun _ _ _ h => h) (Or.inr ⟨by rfl, rfl⟩) (fun _ => HT) ?_
        try simp only [List.getElem_toArray, List.getElem_cons_succ, List.getElem_cons_zero, Act.put, List.setIfInBounds_toArray, List.set_cons_zero, List.set_cons_succ]
        refine GoS.pure (i := 4) (v := undef) rfl (by kernel_rfl) (by kernel_rfl) (by kernel_rfl) (by kernel_rfl) (fun _ _ _ h => h) (Or.inr ⟨by rfl, rfl⟩) (fun _ => HT) ?_
        try simp only [List.getElem_toArray, List.getElem_cons_succ, List.getElem_cons_zero, Act.put, List.setIfInBounds_toArray, List.set_cons_zero, List.set_cons_succ]
        refine GoS.pure (i := 5) (v := undef) rfl (by kernel_rfl) (by kernel_rfl) (by kernel_rfl) (by kernel_rfl) (fun _ _ _ h => h) (Or.inr ⟨by rfl, rfl⟩) (fun _ => HT) ?_
        try simp only [List.getElem_toArray, List.getElem_cons_succ, List.getElem_cons_zero, Act.put, List.setIfInBounds_toArray, List.set_cons_zero, List.set_cons_succ]
        refine GoS.pure (i := 6) (v := undef) rfl (by kernel_rfl) (by kernel_rfl) (by kernel_rfl) (by kernel_rfl) (fun _ _ _ h => h) (Or.inr ⟨by rfl, rfl⟩) (fun _ => HT) ?_
        try simp only [List.getElem_toArray, List.getElem_cons_succ, List.getElem_cons_zero, Act.put, List.setIfInBounds_toArray, List.set_cons_zero, List.set_cons_succ]
        refine GoS.pure (i := 7) (v := undef) rfl (by kernel_rfl) (by kernel_rfl) (by kernel_rfl) (by kernel_rfl) (fun _ _ _ h => h) (Or.inr ⟨by rfl, rfl⟩) (fun _ => HT) ?_
        try simp only [List.getElem_toArray, List.getElem_cons_succ, List.getElem_cons_zero, Act.put, List.setIfInBounds_toArray, List.set_cons_zero, List.set_cons_succ]
        refine GoS.pure (i := 8) (v := ?_) rfl (by kernel_rfl) (by kernel_rfl) (by kernel_rfl) (by kernel_rfl) (fun _ _ _ h => h) (Or.inl ⟨by rfl, ?hy49⟩) (fun _ => HT) ?_
        case hy49 => ((intro u' hT; go_simp); try with_reducible rfl)
        try simp only [List.getElem_toArray, List.getElem_cons_succ, List.getElem_cons_zero, Act.put, List.setIfInBounds_toArray, List.set_cons_zero, List.set_cons_succ]
        refine GoS.pure (i := 9) (v := ?_) rfl (by kernel_rfl) (by kernel_rfl) (by kernel_rfl) (by kernel_rfl) (fun _ _ _ h => h) (Or.inl ⟨by rfl, ?hy50⟩) (fun _ => HT) ?_
        case hy50 => ((intro u' hT; go_simp); try with_reducible rfl)
        try simp only [List.getElem_toArray, List.getElem_cons_succ, List.getElem_cons_zero, Act.put, List.setIfInBounds_toArray, List.set_cons_zero, List.set_cons_succ]
        refine GoS.pure (i := 10) (v := ?_) rfl (by kernel_rfl) (by kernel_rfl) (by kernel_rfl) (by kernel_rfl) (fun _ _ _ h => h) (Or.inl ⟨by rfl, ?hy51⟩) (fun _ => HT) ?_
        case hy51 => ((intro u' hT; go_simp); try with_reducible rfl)
        try simp only [List.getElem_toArray, List.getElem_cons_succ, List.getElem_cons_zero, Act.put, List.setIfInBounds_toArray, List.set_cons_zero, List.set_cons_succ]
        refine GoS.pure (i := 11) (v := ?_) rfl (by kernel_rfl) (by kernel_rfl) (by kernel_rfl) (by kernel_rfl) (fun _ _ _ h => h) (Or.inl ⟨by rfl, ?hy52⟩) (fun _ => HT) ?_
        case hy52 => ((intro u' hT; go_simp); try with_reducible rfl)
        try simp only [List.getElem_toArray, List.getElem_cons_succ, List.getElem_cons_zero, Act.put, List.setIfInBounds_toArray, List.set_cons_zero, List.set_cons_succ]
        refine GoS.pure (i := 12) (v := ?_) rfl (by kernel_rfl) (by kernel_rfl) (by kernel_rfl) (by kernel_rfl) (fun _ _ _ h => h) (Or.inl ⟨by rfl, ?hy53⟩) (fun _ => HT) ?_
        case hy53 => ((intro u' hT; go_simp); try with_reducible rfl)
        try simp only [List.getElem_toArray, List.getElem_cons_succ, List.getElem_cons_zero, Act.put, List.setIfInBounds_toArray, List.set_cons_zero, List.set_cons_succ]
        refine GoS.pure (i := 13) (v := ?_) rfl (by kernel_rfl) (by kernel_rfl) (by kernel_rfl) (by kernel_rfl) (fun _ _ _ h => h) (Or.inl ⟨by rfl, ?hy54⟩) (fun _ => HT) ?_
        case hy54 => ((intro u' hT; go_simp); try with_reducible rfl)
        try simp only [List.getElem_toArray, List.getElem_cons_succ, List.getElem_cons_zero, Act.put, List.setIfInBounds_toArray, List.set_cons_zero, List.set_cons_succ]
        refine GoS.pure (i := 14) (v := ?_) rfl (by kernel_rfl) (by kernel_rfl) (by kernel_rfl) (by kernel_rfl) (fun _ _ _ h => h) (Or.inl ⟨by rfl, ?hy55⟩) (fun _ => HT) ?_
        case hy55 => ((intro u' hT; go_simp); try with_reducible rfl)
        try simp only [List.getElem_toArray, List.getElem_cons_succ, List.getElem_cons_zero, Act.put, List.setIfInBounds_toArray, List.set_cons_zero, List.set_cons_succ]
        refine GoS.pure (i := 15) (v := undef) rfl (by kernel_rfl) (by kernel_rfl) (by kernel_rfl) (by kernel_rfl) (fun _ _ _ h => h) (Or.inr ⟨by rfl, rfl⟩) (fun _ => HT) ?_
        try simp only [List.getElem_toArray, List.getElem_cons_succ, List.getElem_cons_zero, Act.put, List.setIfInBounds_toArray, List.set_cons_zero, List.set_cons_succ]
        refine GoS.pure (i := 16) (v := ?_) rfl (by kernel_rfl) (by kernel_rfl) (by kernel_rfl) (by kernel_rfl) (fun _ _ _ h => h) (Or.inl ⟨by rfl, ?hy56⟩) (fun _ => HT) ?_
        case hy56 => ((intro u' hT; go_simp); try with_reducible rfl)
        try simp only [List.getElem_toArray, List.getElem_cons_succ, List.getElem_cons_zero, Act.put, List.setIfInBounds_toArray, List.set_cons_zero, List.set_cons_succ]
        refine GoS.pure (i := 17) (v := ?_) rfl (by kernel_rfl) (by kernel_rfl) (by kernel_rfl) (by kernel_rfl) (fun _ _ _ h => h) (Or.inl ⟨by rfl, ?hy57⟩) (fun _ => HT) ?_
        case hy57 => ((intro u' hT; go_simp); try with_reducible rfl)
        try simp only [List.getElem_toArray, List.getElem_cons_succ, List.getElem_cons_zero, Act.put, List.setIfInBounds_toArray, List.set_cons_zero, List.set_cons_succ]
        refine GoS.pure (i := 18) (v := ?_) rfl (by kernel_rfl) (by kernel_rfl) (by kernel_rfl) (by kernel_rfl) (fun _ _ _ h => h) (Or.inl ⟨by rfl, ?hy58⟩) (fun _ => HT) ?_
        case hy58 => ((intro u' hT; go_simp); try with_reducible rfl)
        try simp only [List.getElem_toArray, List.getElem_cons_succ, List.getElem_cons_zero, Act.put, List.setIfInBounds_toArray, List.set_cons_zero, List.set_cons_succ]
        refine GoS.store (i := 19) (by kernel_rfl) rfl (by kernel_rfl) (fun K hK => ?_)
        go_simp
        refine hK.out _ _ ?_
        clear hK K
        try simp only [List.getElem_toArray, List.getElem_cons_succ, List.getElem_cons_zero, Act.put, List.setIfInBounds_toArray, List.set_cons_zero, List.set_cons_succ]
        refine GoS.done (by kernel_rfl) ?_
        gi_wp2_with (fail)
        gi_meet
        have KK := HLH.out; (try have ho := HO.out); (try have hh := HH.out)
        refine ⟨?_, ?_, Lib.hid HT⟩
        · unfold dnB; rw [decide_eq_true (KK.1.1 (by omega))]; rfl
        · unfold hiB; rw [decide_eq_false (fun e => by have := KK.2.2.1.2 e; omega), decide_eq_false (fun e => by have := KK.2.2.2.2 e; omega)]; simp
      · have ho1 : (lo == 0) = true := by simp [ho]
        have ho2 : ¬ lo < 0 := by omega
        have HO := Lib.hid ho; clear ho
        refine wpIn_region_S (fun u' => Rd w u1.heap.size W.heap.size (u1.heap.size + 2) (u1.heap.size + 3) v u' (dF D.num bl2 ab2 D.size D.point) (bs t) even r D.size) 19 (by kernel_rfl) (by kernel_rfl) (fun h => h.elim fun _ h => h.elim fun _ h => h) ?_
        have HT := RD.out.drew
        clear RD
        refine GoS.pure (i := 0) (v := ?_) rfl (by kernel_rfl) (by kernel_rfl) (by kernel_rfl) (by kernel_rfl) (fun _ _ _ h => h) (Or.inl ⟨by rfl, ?hy59⟩) (fun _ => HT) ?_
        case hy59 => ((intro u' hT; go_simp); try with_reducible rfl)
        try simp only [List.getElem_toArray, List.getElem_cons_zero, Act.put, List.setIfInBounds_toArray, List.set_cons_zero, List.set_cons_succ]
        refine GoS.pure (i := 1) (v := ?_) rfl (by kernel_rfl) (by kernel_rfl) (by kernel_rfl) (by kernel_rfl) (fun _ _ _ h => h) (Or.inl ⟨by rfl, ?hy60⟩) (fun _ => HT) ?_
        case hy60 => ((intro u' hT; go_simp); try with_reducible rfl)
        try simp only [List.getElem_toArray, List.getElem_cons_succ, List.getElem_cons_zero, Act.put, List.setIfInBounds_toArray, List.set_cons_zero, List.set_cons_succ]
        refine GoS.pure (i := 2) (v := ?_) rfl (by kernel_rfl) (by kernel_rfl) (by kernel_rfl) (by kernel_rfl) (fun _ _ _ h => h) (Or.inl ⟨by rfl, ?hy61⟩) (fun _ => HT) ?_
        case hy61 => ((intro u' hT; go_simp); try with_reducible rfl)
        try simp only [List.getElem_toArray, List.getElem_cons_succ, List.getElem_cons_zero, Act.put, List.setIfInBounds_toArray, List.set_cons_zero, List.set_cons_succ]
        refine GoS.pure (i := 3) (v := ?_) rfl (by kernel_rfl) (by kernel_rfl) (by kernel_rfl) (by kernel_rfl) (fun _ _ _ h => h) (Or.inl ⟨by rfl, ?hy62⟩) (fun _ => HT) ?_
        case hy62 => ((intro u' hT; go_simp); try with_reducible rfl)
        try simp only [List.getElem_toArray, List.getElem_cons_succ, List.getElem_cons_zero, Act.put, List.setIfInBounds_toArray, List.set_cons_zero, List.set_cons_succ]
        refine GoS.pure (i := 4) (v := ?_) rfl (by kernel_rfl) (by kernel_rfl) (by kernel_rfl) (by kernel_rfl) (fun _ _ _ h => h) (Or.inl ⟨by rfl, ?hy63⟩) (fun _ => HT) ?_
        case hy63 => ((intro u' hT; go_simp); try with_reducible rfl)
        try simp only [List.getElem_toArray, List.getElem_cons_succ, List.getElem_cons_zero, Act.put, List.setIfInBounds_toArray, List.set_cons_zero, List.set_cons_succ]
        refine GoS.pure (i := 5) (v := ?_) rfl (by kernel_rfl) (by kernel_rfl) (by kernel_rfl) (by kernel_rfl) (fun _ _ _ h => h) (Or.inl ⟨by rfl, ?hy64⟩) (fun _ => HT) ?_
        case hy64 => ((intro u' hT; go_simp); try with_reducible rfl)
        try simp only [List.getElem_toArray, List.getElem_cons_succ, List.getElem_cons_zero, Act.put, List.setIfInBounds_toArray, List.set_cons_zero, List.set_cons_succ]
        refine GoS.take (i := 6) (v := ?_) rfl (by kernel_rfl) (by kernel_rfl) (by kernel_rfl) (by kernel_rfl) (fun _ _ _ h => h) (Or.inl ⟨by rfl, ?hy65⟩) HT ?_
        case hy65 => ((intro u' hT; have gev := hT.sh.ev; go_simp); try with_reducible rfl)
        try simp only [List.getElem_toArray, List.getElem_cons_succ, List.getElem_cons_zero, Act.put, List.setIfInBounds_toArray, List.set_cons_zero, List.set_cons_succ]
        refine GoS.pure (i := 7) (v := ?_) rfl (by kernel_rfl) (by kernel_rfl) (by kernel_rfl) (by kernel_rfl) (fun _ _ _ h => h) (Or.inl ⟨by rfl, ?hy66⟩) (fun _ => HT) ?_
        case hy66 => ((intro u' hT; go_simp); try with_reducible rfl)
        try simp only [List.getElem_toArray, List.getElem_cons_succ, List.getElem_cons_zero, Act.put, List.setIfInBounds_toArray, List.set_cons_zero, List.set_cons_succ]
        refine GoS.pure (i := 8) (v := ?_) rfl (by kernel_rfl) (by kernel_rfl) (by kernel_rfl) (by kernel_rfl) (fun _ _ _ h => h) (Or.inl ⟨by rfl, ?hy67⟩) (fun _ => HT) ?_
        case hy67 => ((intro u' hT; go_simp); try with_reducible rfl)
        try simp only [List.getElem_toArray, List.getElem_cons_succ, List.getElem_cons_zero, Act.put, List.setIfInBounds_toArray, List.set_cons_zero, List.set_cons_succ]
        refine GoS.pure (i := 9) (v := ?_) rfl (by kernel_rfl) (by kernel_rfl) (by kernel_rfl) (by kernel_rfl) (fun _ _ _ h => h) (Or.inl ⟨by rfl, ?hy68⟩) (fun _ => HT) ?_
        case hy68 => ((intro u' hT; go_simp); try with_reducible rfl)
        try simp only [List.getElem_toArray, List.getElem_cons_succ, List.getElem_cons_zero, Act.put, List.setIfInBounds_toArray, List.set_cons_zero, List.set_cons_succ]
        refine GoS.pure (i := 10) (v := ?_) rfl (by kernel_rfl) (by kernel_rfl) (by kernel_rfl) (by kernel_rfl) (fun _ _ _ h => h) (Or.inl ⟨by rfl, ?hy69⟩) (fun _ => HT) ?_
        case hy69 => ((intro u' hT; go_simp); try with_reducible rfl)
        try simp only [List.getElem_toArray, List.getElem_cons_succ, List.getElem_cons_zero, Act.put, List.setIfInBounds_toArray, List.set_cons_zero, List.set_cons_succ]
        refine GoS.pure (i := 11) (v := ?_) rfl (by kernel_rfl) (by kernel_rfl) (by kernel_rfl) (by kernel_rfl) (fun _ _ _ h => h) (Or.inl ⟨by rfl, ?hy70⟩) (fun _ => HT) ?_
        case hy70 => ((intro u' hT; go_simp); try with_reducible rfl)
        try simp only [List.getElem_toArray, List.getElem_cons_succ, List.getElem_cons_zero, Act.put, List.setIfInBounds_toArray, List.set_cons_zero, List.set_cons_succ]
        refine GoS.pure (i := 12) (v := undef) rfl (by kernel_rfl) (by kernel_rfl) (by kernel_rfl) (by kernel_rfl) (fun _ _ _ h => h) (Or.inr ⟨by rfl, rfl⟩) (fun _ => HT) ?_
        try simp only [List.getElem_toArray, List.getElem_cons_succ, List.getElem_cons_zero, Act.put, List.setIfInBounds_toArray, List.set_cons_zero, List.set_cons_succ]
        refine GoS.pure (i := 13) (v := undef) rfl (by kernel_rfl) (by kernel_rfl) (by kernel_rfl) (by kernel_rfl) (fun _ _ _ h => h) (Or.inr ⟨by rfl, rfl⟩) (fun _ => HT) ?_
        try simp only [List.getElem_toArray, List.getElem_cons_succ, List.getElem_cons_zero, Act.put, List.setIfInBounds_toArray, List.set_cons_zero, List.set_cons_succ]
        refine GoS.pure (i := 14) (v := undef) rfl (by kernel_rfl) (by kernel_rfl) (by kernel_rfl) (by kernel_rfl) (fun _ _ _ h => h) (Or.inr ⟨by rfl, rfl⟩) (fun _ => HT) ?_
        try simp only [List.getElem_toArray, List.getElem_cons_succ, List.getElem_cons_zero, Act.put, List.setIfInBounds_toArray, List.set_cons_zero, List.set_cons_succ]
        refine GoS.pure (i := 15) (v := undef) rfl (by kernel_rfl) (by kernel_rfl) (by kernel_rfl) (by kernel_rfl) (fun _ _ _ h => h) (Or.inr ⟨by rfl, rfl⟩) (fun _ => HT) ?_
        try simp only [List.getElem_toArray, List.getElem_cons_succ, List.getElem_cons_zero, Act.put, List.setIfInBounds_toArray, List.set_cons_zero, List.set_cons_succ]
        refine GoS.pure (i := 16) (v := undef) rfl (by kernel_rfl) (by kernel_rfl) (by kernel_rfl) (by kernel_rfl) (fun _ _ _ h => h) (Or.inr ⟨by rfl, rfl⟩) (fun _ => HT) ?_
        try simp only [List.getElem_toArray, List.getElem_cons_succ, List.getElem_cons_zero, Act.put, List.setIfInBounds_toArray, List.set_cons_zero, List.set_cons_succ]
        refine GoS.pure (i := 17) (v := ?_) rfl (by kernel_rfl) (by kernel_rfl) (by kernel_rfl) (by kernel_rfl) (fun _ _ _ h => h) (Or.inl ⟨by rfl, ?hy71⟩) (fun _ => HT) ?_
        case hy71 => ((intro u' hT; go_simp); try with_reducible rfl)
        try simp only [List.getElem_toArray, List.getElem_cons_succ, List.getElem_cons_zero, Act.put, List.setIfInBounds_toArray, List.set_cons_zero, List.set_cons_succ]
        refine GoS.pure (i := 18) (v := ?_) rfl (by kernel_rfl) (by kernel_rfl) (by kernel_rfl) (by kernel_rfl) (fun _ _ _ h => h) (Or.inl ⟨by rfl, ?hy72⟩) (fun _ => HT) ?_
        case hy72 => ((intro u' hT; go_simp); try with_reducible rfl)
        try simp only [List.getElem_toArray, List.getElem_cons_succ, List.getElem_cons_zero, Act.put, List.setIfInBounds_toArray, List.set_cons_zero, List.set_cons_succ]
        refine GoS.store (i := 19) (by kernel_rfl) rfl (by kernel_rfl) (fun K hK => ?_)
        go_simp
        refine hK.out _ _ ?_
        clear hK K
        try simp only [List.getElem_toArray, List.getElem_cons_succ, List.getElem_cons_zero, Act.put, List.setIfInBounds_toArray, List.set_cons_zero, List.set_cons_succ]
        refine GoS.done (by kernel_rfl) ?_
        gi_wp2_with (fail)
        gi_meet
        have KK := HLH.out; (try have ho := HO.out); (try have hh := HH.out)
        refine ⟨?_, ?_, Lib.hid HT⟩
        · unfold dnB; rw [decide_eq_false (fun e => by have := KK.1.2 e; omega), decide_eq_true (KK.2.1.1 (by omega))]; simp
        · unfold hiB; rw [decide_eq_true (KK.2.2.1.1 (by omega))]; rfl
      · have ho1 : (lo == 0) = true := by simp [ho]
        have ho2 : ¬ lo < 0 := by omega
        have hh1 : (hi == 0) = true := by simp [hh]
        have hh2 : ¬ hi > 0 := by omega
        have HO := Lib.hid ho; clear ho
        have HH := Lib.hid hh; clear hh
        refine wpIn_region_S (fun u' => Rd w u1.heap.size W.heap.size (u1.heap.size + 2) (u1.heap.size + 3) v u' (dF D.num bl2 ab2 D.size D.point) (bs t) even r D.size) 19 (by kernel_rfl) (by kernel_rfl) (fun h => h.elim fun _ h => h.elim fun _ h => h) ?_
        have HT := RD.out.drew
        clear RD
        refine GoS.pure (i := 0) (v := ?_) rfl (by kernel_rfl) (by kernel_rfl) (by kernel_rfl) (by kernel_rfl) (fun _ _ _ h => h) (Or.inl ⟨by rfl, ?hy73⟩) (fun _ => HT) ?_
        case hy73 => ((intro u' hT; go_simp); try with_reducible rfl)
        try simp only [List.getElem_toArray, List.getElem_cons_zero, Act.put, List.setIfInBounds_toArray, List.set_cons_zero, List.set_cons_succ]
        refine GoS.pure (i := 1) (v := ?_) rfl (by kernel_rfl) (by kernel_rfl) (by kernel_rfl) (by kernel_rfl) (fun _ _ _ h => h) (Or.inl ⟨by rfl, ?hy74⟩) (fun _ => HT) ?_
        case hy74 => ((intro u' hT; go_simp); try with_reducible rfl)
        try simp only [List.getElem_toArray, List.getElem_cons_succ, List.getElem_cons_zero, Act.put, List.setIfInBounds_toArray, List.set_cons_zero, List.set_cons_succ]
        refine GoS.pure (i := 2) (v := ?_) rfl (by kernel_rfl) (by kernel_rfl) (by kernel_rfl) (by kernel_rfl) (fun _ _ _ h => h) (Or.inl ⟨by rfl, ?hy75⟩) (fun _ => HT) ?_
        case hy75 => ((intro u' hT; go_simp); try with_reducible rfl)
        try simp only [List.getElem_toArray, List.getElem_cons_succ, List.getElem_cons_zero, Act.put, List.setIfInBounds_toArray, List.set_cons_zero, List.set_cons_succ]
        refine GoS.pure (i := 3) (v := ?_) rfl (by kernel_rfl) (by kernel_rfl) (by kernel_rfl) (by kernel_rfl) (fun _ _ _ h => h) (Or.inl ⟨by rfl, ?hy76⟩) (fun _ => HT) ?_
        case hy76 => ((intro u' hT; go_simp); try with_reducible rfl)
        try simp only [List.getElem_toArray, List.getElem_cons_succ, List.getElem_cons_zero, Act.put, List.setIfInBounds_toArray, List.set_cons_zero, List.set_cons_succ]
        refine GoS.pure (i := 4) (v := ?_) rfl (by kernel_rfl) (by kernel_rfl) (by kernel_rfl) (by kernel_rfl) (fun _ _ _ h => h) (Or.inl ⟨by rfl, ?hy77⟩) (fun _ => HT) ?_
        case hy77 => ((intro u' hT; go_simp); try with_reducible rfl)
        try simp only [List.getElem_toArray, List.getElem_cons_succ, List.getElem_cons_zero, Act.put, List.setIfInBounds_toArray, List.set_cons_zero, List.set_cons_succ]
        refine GoS.pure (i := 5) (v := ?_) rfl (by kernel_rfl) (by kernel_rfl) (by kernel_rfl) (by kernel_rfl) (fun _ _ _ h => h) (Or.inl ⟨by rfl, ?hy78⟩) (fun _ => HT) ?_
        case hy78 => ((intro u' hT; go_simp); try with_reducible rfl)
        try simp only [List.getElem_toArray, List.getElem_cons_succ, List.getElem_cons_zero, Act.put, List.setIfInBounds_toArray, List.set_cons_zero, List.set_cons_succ]
        refine GoS.take (i := 6) (v := ?_) rfl (by kernel_rfl) (by kernel_rfl) (by kernel_rfl) (by kernel_rfl) (fun _ _ _ h => h) (Or.inl ⟨by rfl, ?hy79⟩) HT ?_
        case hy79 => ((intro u' hT; have gev := hT.sh.ev; go_simp); try with_reducible rfl)
        try simp only [List.getElem_toArray, List.getElem_cons_succ, List.getElem_cons_zero, Act.put, List.setIfInBounds_toArray, List.set_cons_zero, List.set_cons_succ]
        refine GoS.pure (i := 7) (v := ?_) rfl (by kernel_rfl) (by kernel_rfl) (by kernel_rfl) (by kernel_rfl) (fun _ _ _ h => h) (Or.inl ⟨by rfl, ?hy80⟩) (fun _ => HT) ?_
        case hy80 => ((intro u' hT; go_simp); try with_reducible rfl)
        try simp only [List.getElem_toArray, List.getElem_cons_succ, List.getElem_cons_zero, Act.put, List.setIfInBounds_toArray, List.set_cons_zero, List.set_cons_succ]
        refine GoS.pure (i := 8) (v := ?_) rfl (by kernel_rfl) (by kernel_rfl) (by kernel_rfl) (by kernel_rfl) (fun _ _ _ h => h) (Or.inl ⟨by rfl, ?hy81⟩) (fun _ => HT) ?_
        case hy81 => ((intro u' hT; go_simp); try with_reducible rfl)
        try simp only [List.getElem_toArray, List.getElem_cons_succ, List.getElem_cons_zero, Act.put, List.setIfInBounds_toArray, List.set_cons_zero, List.set_cons_succ]
        refine GoS.pure (i := 9) (v := ?_) rfl (by kernel_rfl) (by kernel_rfl) (by kernel_rfl) (by kernel_rfl) (fun _ _ _ h => h) (Or.inl ⟨by rfl, ?hy82⟩) (fun _ => HT) ?_
        case hy82 => ((intro u' hT; go_simp); try with_reducible rfl)
        try simp only [List.getElem_toArray, List.getElem_cons_succ, List.getElem_cons_zero, Act.put, List.setIfInBounds_toArray, List.set_cons_zero, List.set_cons_succ]
        refine GoS.pure (i := 10) (v := ?_) rfl (by kernel_rfl) (by kernel_rfl) (by kernel_rfl) (by kernel_rfl) (fun _ _ _ h => h) (Or.inl ⟨by rfl, ?hy83⟩) (fun _ => HT) ?_
        case hy83 => ((intro u' hT; go_simp); try with_reducible rfl)
        try simp only [List.getElem_toArray, List.getElem_cons_succ, List.getElem_cons_zero, Act.put, List.setIfInBounds_toArray, List.set_cons_zero, List.set_cons_succ]
        refine GoS.pure (i := 11) (v := ?_) rfl (by kernel_rfl) (by kernel_rfl) (by kernel_rfl) (by kernel_rfl) (fun _ _ _ h => h) (Or.inl ⟨by rfl, ?hy84⟩) (fun _ => HT) ?_
        case hy84 => ((intro u' hT; go_simp); try with_reducible rfl)
        try simp only [List.getElem_toArray, List.getElem_cons_succ, List.getElem_cons_zero, Act.put, List.setIfInBounds_toArray, List.set_cons_zero, List.set_cons_succ]
        refine GoS.pure (i := 12) (v := ?_) rfl (by kernel_rfl) (by kernel_rfl) (by kernel_rfl) (by kernel_rfl) (fun _ _ _ h => h) (Or.inl ⟨by rfl, ?hy85⟩) (fun _ => HT) ?_
        case hy85 => ((intro u' hT; go_simp); try with_reducible rfl)
        try simp only [List.getElem_toArray, List.getElem_cons_succ, List.getElem_cons_zero, Act.put, List.setIfInBounds_toArray, List.set_cons_zero, List.set_cons_succ]
        refine GoS.pure (i := 13) (v := ?_) rfl (by kernel_rfl) (by kernel_rfl) (by kernel_rfl) (by kernel_rfl) (fun _ _ _ h => h) (Or.inl ⟨by rfl, ?hy86⟩) (fun _ => HT) ?_
        case hy86 => ((intro u' hT; go_simp); try with_reducible rfl)
        try simp only [List.getElem_toArray, List.getElem_cons_succ, List.getElem_cons_zero, Act.put, List.setIfInBounds_toArray, List.set_cons_zero, List.set_cons_succ]
        refine GoS.pure (i := 14) (v := ?_) rfl (by kernel_rfl) (by kernel_rfl) (by kernel_rfl) (by kernel_rfl) (fun _ _ _ h => h) (Or.inl ⟨by rfl, ?hy87⟩) (fun _ => HT) ?_
        case hy87 => ((intro u' hT; go_simp); try with_reducible rfl)
        try simp only [List.getElem_toArray, List.getElem_cons_succ, List.getElem_cons_zero, Act.put, List.setIfInBounds_toArray, List.set_cons_zero, List.set_cons_succ]
        refine GoS.take (i := 15) (v := ?_) rfl (by kernel_rfl) (by kernel_rfl) (by kernel_rfl) (by kernel_rfl) (fun _ _ _ h => h) (Or.inl ⟨by rfl, ?hy88⟩) HT ?_
        case hy88 => ((intro u' hT; have gev := hT.sh.ev; go_simp); try with_reducible rfl)
        try simp only [List.getElem_toArray, List.getElem_cons_succ, List.getElem_cons_zero, Act.put, List.setIfInBounds_toArray, List.set_cons_zero, List.set_cons_succ]
        refine GoS.pure (i := 16) (v := ?_) rfl (by kernel_rfl) (by kernel_rfl) (by kernel_rfl) (by kernel_rfl) (fun _ _ _ h => h) (Or.inl ⟨by rfl, ?hy89⟩) (fun _ => HT) ?_
        case hy89 => ((intro u' hT; go_simp); try with_reducible rfl)
        try simp only [List.getElem_toArray, List.getElem_cons_succ, List.getElem_cons_zero, Act.put, List.setIfInBounds_toArray, List.set_cons_zero, List.set_cons_succ]
        refine GoS.pure (i := 17) (v := ?_) rfl (by kernel_rfl) (by kernel_rfl) (by kernel_rfl) (by kernel_rfl) (fun _ _ _ h => h) (Or.inl ⟨by rfl, ?hy90⟩) (fun _ => HT) ?_
        case hy90 => ((intro u' hT; go_simp); try with_reducible rfl)
        try simp only [List.getElem_toArray, List.getElem_cons_succ, List.getElem_cons_zero, Act.put, List.setIfInBounds_toArray, List.set_cons_zero, List.set_cons_succ]
        refine GoS.pure (i := 18) (v := ?_) rfl (by kernel_rfl) (by kernel_rfl) (by kernel_rfl) (by kernel_rfl) (fun _ _ _ h => h) (Or.inl ⟨by rfl, ?hy91⟩) (fun _ => HT) ?_
        case hy91 => ((intro u' hT; go_simp); try with_reducible rfl)
        try simp only [List.getElem_toArray, List.getElem_cons_succ, List.getElem_cons_zero, Act.put, List.setIfInBounds_toArray, List.set_cons_zero, List.set_cons_succ]
        refine GoS.store (i := 19) (by kernel_rfl) rfl (by kernel_rfl) (fun K hK => ?_)
        go_simp
        refine hK.out _ _ ?_
        clear hK K
        try simp only [List.getElem_toArray, List.getElem_cons_succ, List.getElem_cons_zero, Act.put, List.setIfInBounds_toArray, List.set_cons_zero, List.set_cons_succ]
        refine GoS.done (by kernel_rfl) ?_
        gi_wp2_with (fail)
        gi_meet
        have KK := HLH.out; (try have ho := HO.out); (try have hh := HH.out)
        refine ⟨?_, ?_, Lib.hid HT⟩
        · unfold dnB; rw [decide_eq_false (fun e => by have := KK.1.2 e; omega), decide_eq_true (KK.2.1.1 (by omega))]; simp
        · unfold hiB; rw [decide_eq_false (fun e => by have := KK.2.2.1.2 e; omega), decide_eq_true (KK.2.2.2.1 (by omega))]; simp
      · have ho1 : (lo == 0) = true := by simp [ho]
        have ho2 : ¬ lo < 0 := by omega
        have hh1 : (hi == 0) = false := by simp; omega
        have hh2 : ¬ hi > 0 := by omega
        have HO := Lib.hid ho; clear ho
        refine wpIn_region_S (fun u' => Rd w u1.heap.size W.heap.size (u1.heap.size + 2) (u1.heap.size + 3) v u' (dF D.num bl2 ab2 D.size D.point) (bs t) even r D.size) 19 (by kernel_rfl) (by kernel_rfl) (fun h => h.elim fun _ h => h.elim fun _ h => h) ?_
        have HT := RD.out.drew
        clear RD
        refine GoS.pure (i := 0) (v := ?_) rfl (by kernel_rfl) (by kernel_rfl) (by kernel_rfl) (by kernel_rfl) (fun _ _ _ h => h) (Or.inl ⟨by rfl, ?hy92⟩) (fun _ => HT) ?_
        case hy92 => ((intro u' hT; go_simp); try with_reducible rfl)
        try simp only [List.getElem_toArray, List.getElem_cons_zero, Act.put, List.setIfInBounds_toArray, List.set_cons_zero, List.set_cons_succ]
        refine GoS.pure (i := 1) (v := ?_) rfl (by kernel_rfl) (by kernel_rfl) (by kernel_rfl) (by kernel_rfl) (fun _ _ _ h => h) (Or.inl ⟨by rfl, ?hy93⟩) (fun _ => HT) ?_
        case hy93 => ((intro u' hT; go_simp); try with_reducible rfl)
        try simp only [List.getElem_toArray, List.getElem_cons_succ, List.getElem_cons_zero, Act.put, List.setIfInBounds_toArray, List.set_cons_zero, List.set_cons_succ]
        refine GoS.pure (i := 2) (v := ?_) rfl (by kernel_rfl) (by kernel_rfl) (by kernel_rfl) (by kernel_rfl) (fun _ _ _ h => h) (Or.inl ⟨by rfl, ?hy94⟩) (fun _ => HT) ?_
        case hy94 => ((intro u' hT; go_simp); try with_reducible rfl)
        try simp only [List.getElem_toArray, List.getElem_cons_succ, List.getElem_cons_zero, Act.put, List.setIfInBounds_toArray, List.set_cons_zero, List.set_cons_succ]
        refine GoS.pure (i := 3) (v := ?_) rfl (by kernel_rfl) (by kernel_rfl) (by kernel_rfl) (by kernel_rfl) (fun _ _ _ h => h) (Or.inl ⟨by rfl, ?hy95⟩) (fun _ => HT) ?_
        case hy95 => ((intro u' hT; go_simp); try with_reducible rfl)
        try simp only [List.getElem_toArray, List.getElem_cons_succ, List.getElem_cons_zero, Act.put, List.setIfInBounds_toArray, List.set_cons_zero, List.set_cons_succ]
        refine GoS.pure (i := 4) (v := ?_) rfl (by kernel_rfl) (by kernel_rfl) (by kernel_rfl) (by kernel_rfl) (fun _ _ _ h => h) (Or.inl ⟨by rfl, ?hy96⟩) (fun _ => HT) ?_
        case hy96 => ((intro u' hT; go_simp); try with_reducible rfl)
        try simp only [List.getElem_toArray, List.getElem_cons_succ, List.getElem_cons_zero, Act.put, List.setIfInBounds_toArray, List.set_cons_zero, List.set_cons_succ]
        refine GoS.pure (i := 5) (v := ?_) rfl (by kernel_rfl) (by kernel_rfl) (by kernel_rfl) (by kernel_rfl) (fun _ _ _ h => h) (Or.inl ⟨by rfl, ?hy97⟩) (fun _ => HT) ?_
        case hy97 => ((intro u' hT; go_simp); try with_reducible rfl)
        try simp only [List.getElem_toArray, List.getElem_cons_succ, List.getElem_cons_zero, Act.put, List.setIfInBounds_toArray, List.set_cons_zero, List.set_cons_succ]
        refine GoS.take (i := 6) (v := ?_) rfl (by kernel_rfl) (by kernel_rfl) (by kernel_rfl) (by kernel_rfl) (fun _ _ _ h => h) (Or.inl ⟨by rfl, ?hy98⟩) HT ?_
        case hy98 => ((intro u' hT; have gev := hT.sh.ev; go_simp); try with_reducible rfl)
        try simp only [List.getElem_toArray, List.getElem_cons_succ, List.getElem_cons_zero, Act.put, List.setIfInBounds_toArray, List.set_cons_zero, List.set_cons_succ]
        refine GoS.pure (i := 7) (v := ?_) rfl (by kernel_rfl) (by kernel_rfl) (by kernel_rfl) (by kernel_rfl) (fun _ _ _ h => h) (Or.inl ⟨by rfl, ?hy99⟩) (fun _ => HT) ?_
        case hy99 => ((intro u' hT; go_simp); try with_reducible rfl)
        try simp only [List.getElem_toArray, List.getElem_cons_succ, List.getElem_cons_zero, Act.put, List.setIfInBounds_toArray, List.set_cons_zero, List.set_cons_succ]
        refine GoS.pure (i := 8) (v := ?_) rfl (by kernel_rfl) (by kernel_rfl) (by kernel_rfl) (by kernel_rfl) (fun _ _ _ h => h) (Or.inl ⟨by rfl, ?hy100⟩) (fun _ => HT) ?_
        case hy100 => ((intro u' hT; go_simp); try with_reducible rfl)
        try simp only [List.getElem_toArray, List.getElem_cons_succ, List.getElem_cons_zero, Act.put, List.setIfInBounds_toArray, List.set_cons_zero, List.set_cons_succ]
        refine GoS.pure (i := 9) (v := ?_) rfl (by kernel_rfl) (by kernel_rfl) (by kernel_rfl) (by kernel_rfl) (fun _ _ _ h => h) (Or.inl ⟨by rfl, ?hy101⟩) (fun _ => HT) ?_
        case hy101 => ((intro u' hT; go_simp); try with_reducible rfl)
        try simp only [List.getElem_toArray, List.getElem_cons_succ, List.getElem_cons_zero, Act.put, List.setIfInBounds_toArray, List.set_cons_zero, List.set_cons_succ]
        refine GoS.pure (i := 10) (v := ?_) rfl (by kernel_rfl) (by kernel_rfl) (by kernel_rfl) (by kernel_rfl) (fun _ _ _ h => h) (Or.inl ⟨by rfl, ?hy102⟩) (fun _ => HT) ?_
        case hy102 => ((intro u' hT; go_simp); try with_reducible rfl)
        try simp only [List.getElem_toArray, List.getElem_cons_succ, List.getElem_cons_zero, Act.put, List.setIfInBounds_toArray, List.set_cons_zero, List.set_cons_succ]
        refine GoS.pure (i := 11) (v := ?_) rfl (by kernel_rfl) (by kernel_rfl) (by kernel_rfl) (by kernel_rfl) (fun _ _ _ h => h) (Or.inl ⟨by rfl, ?hy103⟩) (fun _ => HT) ?_
        case hy103 => ((intro u' hT; go_simp); try with_reducible rfl)
        try simp only [List.getElem_toArray, List.getElem_cons_succ, List.getElem_cons_zero, Act.put, List.setIfInBounds_toArray, List.set_cons_zero, List.set_cons_succ]
        refine GoS.pure (i := 12) (v := ?_) rfl (by kernel_rfl) (by kernel_rfl) (by kernel_rfl) (by kernel_rfl) (fun _ _ _ h => h) (Or.inl ⟨by rfl, ?hy104⟩) (fun _ => HT) ?_
        case hy104 => ((intro u' hT; go_simp); try with_reducible rfl)
        try simp only [List.getElem_toArray, List.getElem_cons_succ, List.getElem_cons_zero, Act.put, List.setIfInBounds_toArray, List.set_cons_zero, List.set_cons_succ]
        refine GoS.pure (i := 13) (v := ?_) rfl (by kernel_rfl) (by kernel_rfl) (by kernel_rfl) (by kernel_rfl) (fun _ _ _ h => h) (Or.inl ⟨by rfl, ?hy105⟩) (fun _ => HT) ?_
        case hy105 => ((intro u' hT; go_simp); try with_reducible rfl)
        try simp only [List.getElem_toArray, List.getElem_cons_succ, List.getElem_cons_zero, Act.put, List.setIfInBounds_toArray, List.set_cons_zero, List.set_cons_succ]
        refine GoS.pure (i := 14) (v := ?_) rfl (by kernel_rfl) (by kernel_rfl) (by kernel_rfl) (by kernel_rfl) (fun _ _ _ h => h) (Or.inl ⟨by rfl, ?hy106⟩) (fun _ => HT) ?_
        case hy106 => ((intro u' hT; go_simp); try with_reducible rfl)
        try simp only [List.getElem_toArray, List.getElem_cons_succ, List.getElem_cons_zero, Act.put, List.setIfInBounds_toArray, List.set_cons_zero, List.set_cons_succ]
        refine GoS.pure (i := 15) (v := undef) rfl (by kernel_rfl) (by kernel_rfl) (by kernel_rfl) (by kernel_rfl) (fun _ _ _ h => h) (Or.inr ⟨by rfl, rfl⟩) (fun _ => HT) ?_
        try simp only [List.getElem_toArray, List.getElem_cons_succ, List.getElem_cons_zero, Act.put, List.setIfInBounds_toArray, List.set_cons_zero, List.set_cons_succ]
        refine GoS.pure (i := 16) (v := ?_) rfl (by kernel_rfl) (by kernel_rfl) (by kernel_rfl) (by kernel_rfl) (fun _ _ _ h => h) (Or.inl ⟨by rfl, ?hy107⟩) (fun _ => HT) ?_
        case hy107 => ((intro u' hT; go_simp); try with_reducible rfl)
        try simp only [List.getElem_toArray, List.getElem_cons_succ, List.getElem_cons_zero, Act.put, List.setIfInBounds_toArray, List.set_cons_zero, List.set_cons_succ]
        refine GoS.pure (i := 17) (v := ?_) rfl (by kernel_rfl) (by kernel_rfl) (by kernel_rfl) (by kernel_rfl) (fun _ _ _ h => h) (Or.inl ⟨by rfl, ?hy108⟩) (fun _ => HT) ?_
        case hy108 => ((intro u' hT; go_simp); try with_reducible rfl)
        try simp only [List.getElem_toArray, List.getElem_cons_succ, List.getElem_cons_zero, Act.put, List.setIfInBounds_toArray, List.set_cons_zero, List.set_cons_succ]
        refine GoS.pure (i := 18) (v := ?_) rfl (by kernel_rfl) (by kernel_rfl) (by kernel_rfl) (by kernel_rfl) (fun _ _ _ h => h) (Or.inl ⟨by rfl, ?hy109⟩) (fun _ => HT) ?_
        case hy109 => ((intro u' hT; go_simp); try with_reducible rfl)
        try simp only [List.getElem_toArray, List.getElem_cons_succ, List.getElem_cons_zero, Act.put, List.setIfInBounds_toArray, List.set_cons_zero, List.set_cons_succ]
        refine GoS.store (i := 19) (by kernel_rfl) rfl (by kernel_rfl) (fun K hK => ?_)
        go_simp
        refine hK.out _ _ ?_
        clear hK K
        try simp only [List.getElem_toArray, List.getElem_cons_succ, List.getElem_cons_zero, Act.put, List.setIfInBounds_toArray, List.set_cons_zero, List.set_cons_succ]
        refine GoS.done (by kernel_rfl) ?_
        gi_wp2_with (fail)
        gi_meet
        have KK := HLH.out; (try have ho := HO.out); (try have hh := HH.out)
        refine ⟨?_, ?_, Lib.hid HT⟩
        · unfold dnB; rw [decide_eq_false (fun e => by have := KK.1.2 e; omega), decide_eq_true (KK.2.1.1 (by omega))]; simp
        · unfold hiB; rw [decide_eq_false (fun e => by have := KK.2.2.1.2 e; omega), decide_eq_false (fun e => by have := KK.2.2.2.2 e; omega)]; simp
      · have ho1 : (lo == 0) = false := by simp; omega
        have ho2 : ¬ lo < 0 := by omega
        refine wpIn_region_S (fun u' => Rd w u1.heap.size W.heap.size (u1.heap.size + 2) (u1.heap.size + 3) v u' (dF D.num bl2 ab2 D.size D.point) (bs t) even r D.size) 19 (by kernel_rfl) (by kernel_rfl) (fun h => h.elim fun _ h => h.elim fun _ h => h) ?_
        have HT := RD.out.drew
        clear RD
        refine GoS.pure (i := 0) (v := ?_) rfl (by kernel_rfl) (by kernel_rfl) (by kernel_rfl) (by kernel_rfl) (fun _ _ _ h => h) (Or.inl ⟨by rfl, ?hy110⟩) (fun _ => HT) ?_
        case hy110 => ((intro u' hT; go_simp); try with_reducible rfl)
        try simp only [List.getElem_toArray, List.getElem_cons_zero, Act.put, List.setIfInBounds_toArray, List.set_cons_zero, List.set_cons_succ]
        refine GoS.pure (i := 1) (v := ?_) rfl (by kernel_rfl) (by kernel_rfl) (by kernel_rfl) (by kernel_rfl) (fun _ _ _ h => h) (Or.inl ⟨by rfl, ?hy111⟩) (fun _ => HT) ?_
        case hy111 => ((intro u' hT; go_simp); try with_reducible rfl)
        try simp only [List.getElem_toArray, List.getElem_cons_succ, List.getElem_cons_zero, Act.put, List.setIfInBounds_toArray, List.set_cons_zero, List.set_cons_succ]
        refine GoS.pure (i := 2) (v := ?_) rfl (by kernel_rfl) (by kernel_rfl) (by kernel_rfl) (by kernel_rfl) (fun _ _ _ h => h) (Or.inl ⟨by rfl, ?hy112⟩) (fun _ => HT) ?_
        case hy112 => ((intro u' hT; go_simp); try with_reducible rfl)
        try simp only [List.getElem_toArray, List.getElem_cons_succ, List.getElem_cons_zero, Act.put, List.setIfInBounds_toArray, List.set_cons_zero, List.set_cons_succ]
        refine GoS.pure (i := 3) (v := ?_) rfl (by kernel_rfl) (by kernel_rfl) (by kernel_rfl) (by kernel_rfl) (fun _ _ _ h => h) (Or.inl ⟨by rfl, ?hy113⟩) (fun _ => HT) ?_
        case hy113 => ((intro u' hT; go_simp); try with_reducible rfl)
        try simp only [List.getElem_toArray, List.getElem_cons_succ, List.getElem_cons_zero, Act.put, List.setIfInBounds_toArray, List.set_cons_zero, List.set_cons_succ]
        refine GoS.pure (i := 4) (v := ?_) rfl (by kernel_rfl) (by kernel_rfl) (by kernel_rfl) (by kernel_rfl) (fun _ _ _ h => h) (Or.inl ⟨by rfl, ?hy114⟩) (fun _ => HT) ?_
        case hy114 => ((intro u' hT; go_simp); try with_reducible rfl)
        try simp only [List.getElem_toArray, List.getElem_cons_succ, List.getElem_cons_zero, Act.put, List.setIfInBounds_toArray, List.set_cons_zero, List.set_cons_succ]
        refine GoS.pure (i := 5) (v := ?_) rfl (by kernel_rfl) (by kernel_rfl) (by kernel_rfl) (by kernel_rfl) (fun _ _ _ h => h) (Or.inl ⟨by rfl, ?hy115⟩) (fun _ => HT) ?_
        case hy115 => ((intro u' hT; go_simp); try with_reducible rfl)
        try simp only [List.getElem_toArray, List.getElem_cons_succ, List.getElem_cons_zero, Act.put, List.setIfInBounds_toArray, List.set_cons_zero, List.set_cons_succ]
        refine GoS.pure (i := 6) (v := undef) rfl (by kernel_rfl) (by kernel_rfl) (by kernel_rfl) (by kernel_rfl) (fun _ _ _ h => h) (Or.inr ⟨by rfl, rfl⟩) (fun _ => HT) ?_
        try simp only [List.getElem_toArray, List.getElem_cons_succ, List.getElem_cons_zero, Act.put, List.setIfInBounds_toArray, List.set_cons_zero, List.set_cons_succ]
        refine GoS.pure (i := 7) (v := ?_) rfl (by kernel_rfl) (by kernel_rfl) (by kernel_rfl) (by kernel_rfl) (fun _ _ _ h => h) (Or.inl ⟨by rfl, ?hy116⟩) (fun _ => HT) ?_
        case hy116 => ((intro u' hT; go_simp); try with_reducible rfl)
        try simp only [List.getElem_toArray, List.getElem_cons_succ, List.getElem_cons_zero, Act.put, List.setIfInBounds_toArray, List.set_cons_zero, List.set_cons_succ]
        refine GoS.pure (i := 8) (v := ?_) rfl (by kernel_rfl) (by kernel_rfl) (by kernel_rfl) (by kernel_rfl) (fun _ _ _ h => h) (Or.inl ⟨by rfl, ?hy117⟩) (fun _ => HT) ?_
        case hy117 => ((intro u' hT; go_simp); try with_reducible rfl)
        try simp only [List.getElem_toArray, List.getElem_cons_succ, List.getElem_cons_zero, Act.put, List.setIfInBounds_toArray, List.set_cons_zero, List.set_cons_succ]
        refine GoS.pure (i := 9) (v := ?_) rfl (by kernel_rfl) (by kernel_rfl) (by kernel_rfl) (by kernel_rfl) (fun _ _ _ h => h) (Or.inl ⟨by rfl, ?hy118⟩) (fun _ => HT) ?_
        case hy118 => ((intro u' hT; go_simp); try with_reducible rfl)
        try simp only [List.getElem_toArray, List.getElem_cons_succ, List.getElem_cons_zero, Act.put, List.setIfInBounds_toArray, List.set_cons_zero, List.set_cons_succ]
        refine GoS.pure (i := 10) (v := ?_) rfl (by kernel_rfl) (by kernel_rfl) (by kernel_rfl) (by kernel_rfl) (fun _ _ _ h => h) (Or.inl ⟨by rfl, ?hy119⟩) (fun _ => HT) ?_
        case hy119 => ((intro u' hT; go_simp); try with_reducible rfl)
        try simp only [List.getElem_toArray, List.getElem_cons_succ, List.getElem_cons_zero, Act.put, List.setIfInBounds_toArray, List.set_cons_zero, List.set_cons_succ]
        refine GoS.pure (i := 11) (v := ?_) rfl (by kernel_rfl) (by kernel_rfl) (by kernel_rfl) (by kernel_rfl) (fun _ _ _ h => h) (Or.inl ⟨by rfl, ?hy120⟩) (fun _ => HT) ?_
        case hy120 => ((intro u' hT; go_simp); try with_reducible rfl)
        try simp only [List.getElem_toArray, List.getElem_cons_succ, List.getElem_cons_zero, Act.put, List.setIfInBounds_toArray, List.set_cons_zero, List.set_cons_succ]
        refine GoS.pure (i := 12) (v := undef) rfl (by kernel_rfl) (by kernel_rfl) (by kernel_rfl) (by kernel_rfl) (fun _ _ _ h => h) (Or.inr ⟨by rfl, rfl⟩) (fun _ => HT) ?_
        try simp only [List.getElem_toArray, List.getElem_cons_succ, List.getElem_cons_zero, Act.put, List.setIfInBounds_toArray, List.set_cons_zero, List.set_cons_succ]
        refine GoS.pure (i := 13) (v := undef) rfl (by kernel_rfl) (by kernel_rfl) (by kernel_rfl) (by kernel_rfl) (fun _ _ _ h => h) (Or.inr ⟨by rfl, rfl⟩) (fun _ => HT) ?_
        try simp only [List.getElem_toArray, List.getElem_cons_succ, List.getElem_cons_zero, Act.put, List.setIfInBounds_toArray, List.set_cons_zero, List.set_cons_succ]
        refine GoS.pure (i := 14) (v := undef) rfl (by kernel_rfl) (by kernel_rfl) (by kernel_rfl) (by kernel_rfl) (fun _ _ _ h => h) (Or.inr ⟨by rfl, rfl⟩) (fun _ => HT) ?_
        try simp only [List.getElem_toArray, List.getElem_cons_succ, List.getElem_cons_zero, Act.put, List.setIfInBounds_toArray, List.set_cons_zero, List.set_cons_succ]
        refine GoS.pure (i := 15) (v := undef) rfl (by kernel_rfl) (by kernel_rfl) (by kernel_rfl) (by kernel_rfl) (fun _ _ _ h => h) (Or.inr ⟨by rfl, rfl⟩) (fun _ => HT) ?_
        try simp only [List.getElem_toArray, List.getElem_cons_succ, List.getElem_cons_zero, Act.put, List.setIfInBounds_toArray, List.set_cons_zero, List.set_cons_succ]
        refine GoS.pure (i := 16) (v := undef) rfl (by kernel_rfl) (by kernel_rfl) (by kernel_rfl) (by kernel_rfl) (fun _ _ _ h => h) (Or.inr ⟨by rfl, rfl⟩) (fun _ => HT) ?_
        try simp only [List.getElem_toArray, List.getElem_cons_succ, List.getElem_cons_zero, Act.put, List.setIfInBounds_toArray, List.set_cons_zero, List.set_cons_succ]
        refine GoS.pure (i := 17) (v := ?_) rfl (by kernel_rfl) (by kernel_rfl) (by kernel_rfl) (by kernel_rfl) (fun _ _ _ h => h) (Or.inl ⟨by rfl, ?hy121⟩) (fun _ => HT) ?_
        case hy121 => ((intro u' hT; go_simp); try with_reducible rfl)
        try simp only [List.getElem_toArray, List.getElem_cons_succ, List.getElem_cons_zero, Act.put, List.setIfInBounds_toArray, List.set_cons_zero, List.set_cons_succ]
        refine GoS.pure (i := 18) (v := ?_) rfl (by kernel_rfl) (by kernel_rfl) (by kernel_rfl) (by kernel_rfl) (fun _ _ _ h => h) (Or.inl ⟨by rfl, ?hy122⟩) (fun _ => HT) ?_
        case hy122 => ((intro u' hT; go_simp); try with_reducible rfl)
        try simp only [List.getElem_toArray, List.getElem_cons_succ, List.getElem_cons_zero, Act.put, List.setIfInBounds_toArray, List.set_cons_zero, List.set_cons_succ]
        refine GoS.store (i := 19) (by kernel_rfl) rfl (by kernel_rfl) (fun K hK => ?_)
        go_simp
        refine hK.out _ _ ?_
        clear hK K
        try simp only [List.getElem_toArray, List.getElem_cons_succ, List.getElem_cons_zero, Act.put, List.setIfInBounds_toArray, List.set_cons_zero, List.set_cons_succ]
        refine GoS.done (by kernel_rfl) ?_
        gi_wp2_with (fail)
        gi_meet
        have KK := HLH.out; (try have ho := HO.out); (try have hh := HH.out)
        refine ⟨?_, ?_, Lib.hid HT⟩
        · unfold dnB; rw [decide_eq_false (fun e => by have := KK.1.2 e; omega), decide_eq_false (fun e => by have := KK.2.1.2 e; omega)]; simp
        · unfold hiB; rw [decide_eq_true (KK.2.2.1.1 (by omega))]; rfl
      · have ho1 : (lo == 0) = false := by simp; omega
        have ho2 : ¬ lo < 0 := by omega
        have hh1 : (hi == 0) = true := by simp [hh]
        have hh2 : ¬ hi > 0 := by omega
        have HH := Lib.hid hh; clear hh
        refine wpIn_region_S (fun u' => Rd w u1.heap.size W.heap.size (u1.heap.size + 2) (u1.heap.size + 3) v u' (dF D.num bl2 ab2 D.size D.point) (bs t) even r D.size) 19 (by kernel_rfl) (by kernel_rfl) (fun h => h.elim fun _ h => h.elim fun _ h => h) ?_
        have HT := RD.out.drew
        clear RD
        refine GoS.pure (i := 0) (v := ?_) rfl (by kernel_rfl) (by kernel_rfl) (by kernel_rfl) (by kernel_rfl) (fun _ _ _ h => h) (Or.inl ⟨by rfl, ?hy123⟩) (fun _ => HT) ?_
        case hy123 => ((intro u' hT; go_simp); try with_reducible rfl)
        try simp only [List.getElem_toArray, List.getElem_cons_zero, Act.put, List.setIfInBounds_toArray, List.set_cons_zero, List.set_cons_succ]
        refine GoS.pure (i := 1) (v := ?_) rfl (by kernel_rfl) (by kernel_rfl) (by kernel_rfl) (by kernel_rfl) (fun _ _ _ h => h) (Or.inl ⟨by rfl, ?hy124⟩) (fun _ => HT) ?_
        case hy124 => ((intro u' hT; go_simp); try with_reducible rfl)
        try simp only [List.getElem_toArray, List.getElem_cons_succ, List.getElem_cons_zero, Act.put, List.setIfInBounds_toArray, List.set_cons_zero, List.set_cons_succ]
        refine GoS.pure (i := 2) (v := ?_) rfl (by kernel_rfl) (by kernel_rfl) (by kernel_rfl) (by kernel_rfl) (fun _ _ _ h => h) (Or.inl ⟨by rfl, ?hy125⟩) (fun _ => HT) ?_
        case hy125 => ((intro u' hT; go_simp); try with_reducible rfl)
        try simp only [List.getElem_toArray, List.getElem_cons_succ, List.getElem_cons_zero, Act.put, List.setIfInBounds_toArray, List.set_cons_zero, List.set_cons_succ]
        refine GoS.pure (i := 3) (v := ?_) rfl (by kernel_rfl) (by kernel_rfl) (by kernel_rfl) (by kernel_rfl) (fun _ _ _ h => h) (Or.inl ⟨by rfl, ?hy126⟩) (fun _ => HT) ?_
        case hy126 => ((intro u' hT; go_simp); try with_reducible rfl)
        try simp only [List.getElem_toArray, List.getElem_cons_succ, List.getElem_cons_zero, Act.put, List.setIfInBounds_toArray, List.set_cons_zero, List.set_cons_succ]
        refine GoS.pure (i := 4) (v := ?_) rfl (by kernel_rfl) (by kernel_rfl) (by kernel_rfl) (by kernel_rfl) (fun _ _ _ h => h) (Or.inl ⟨by rfl, ?hy127⟩) (fun _ => HT) ?_
        case hy127 => ((intro u' hT; go_simp); try with_reducible rfl)
        try simp only [List.getElem_toArray, List.getElem_cons_succ, List.getElem_cons_zero, Act.put, List.setIfInBounds_toArray, List.set_cons_zero, List.set_cons_succ]
        refine GoS.pure (i := 5) (v := ?_) rfl (by kernel_rfl) (by kernel_rfl) (by kernel_rfl) (by kernel_rfl) (fun _ _ _ h => h) (Or.inl ⟨by rfl, ?hy128⟩) (fun _ => HT) ?_
        case hy128 => ((intro u' hT; go_simp); try with_reducible rfl)
        try simp only [List.getElem_toArray, List.getElem_cons_succ, List.getElem_cons_zero, Act.put, List.setIfInBounds_toArray, List.set_cons_zero, List.set_cons_succ]
        refine GoS.pure (i := 6) (v := undef) rfl (by kernel_rfl) (by kernel_rfl) (by kernel_rfl) (by kernel_rfl) (fun _ _ _ h => h) (Or.inr ⟨by rfl, rfl⟩) (fun _ => HT) ?_
        try simp only [List.getElem_toArray, List.getElem_cons_succ, List.getElem_cons_zero, Act.put, List.setIfInBounds_toArray, List.set_cons_zero, List.set_cons_succ]
        refine GoS.pure (i := 7) (v := ?_) rfl (by kernel_rfl) (by kernel_rfl) (by kernel_rfl) (by kernel_rfl) (fun _ _ _ h => h) (Or.inl ⟨by rfl, ?hy129⟩) (fun _ => HT) ?_
        case hy129 => ((intro u' hT; go_simp); try with_reducible rfl)
        try simp only [List.getElem_toArray, List.getElem_cons_succ, List.getElem_cons_zero, Act.put, List.setIfInBounds_toArray, List.set_cons_zero, List.set_cons_succ]
        refine GoS.pure (i := 8) (v := ?_) rfl (by kernel_rfl) (by kernel_rfl) (by kernel_rfl) (by kernel_rfl) (fun _ _ _ h => h) (Or.inl ⟨by rfl, ?hy130⟩) (fun _ => HT) ?_
        case hy130 => ((intro u' hT; go_simp); try with_reducible rfl)
        try simp only [List.getElem_toArray, List.getElem_cons_succ, List.getElem_cons_zero, Act.put, List.setIfInBounds_toArray, List.set_cons_zero, List.set_cons_succ]
        refine GoS.pure (i := 9) (v := ?_) rfl (by kernel_rfl) (by kernel_rfl) (by kernel_rfl) (by kernel_rfl) (fun _ _ _ h => h) (Or.inl ⟨by rfl, ?hy131⟩) (fun _ => HT) ?_
        case hy131 => ((intro u' hT; go_simp); try with_reducible rfl)
        try simp only [List.getElem_toArray, List.getElem_cons_succ, List.getElem_cons_zero, Act.put, List.setIfInBounds_toArray, List.set_cons_zero, List.set_cons_succ]
        refine GoS.pure (i := 10) (v := ?_) rfl (by kernel_rfl) (by kernel_rfl) (by kernel_rfl) (by kernel_rfl) (fun _ _ _ h => h) (Or.inl ⟨by rfl, ?hy132⟩) (fun _ => HT) ?_
        case hy132 => ((intro u' hT; go_simp); try with_reducible rfl)
        try simp only [List.getElem_toArray, List.getElem_cons_succ, List.getElem_cons_zero, Act.put, List.setIfInBounds_toArray, List.set_cons_zero, List.set_cons_succ]
        refine GoS.pure (i := 11) (v := ?_) rfl (by kernel_rfl) (by kernel_rfl) (by kernel_rfl) (by kernel_rfl) (fun _ _ _ h => h) (Or.inl ⟨by rfl, ?hy133⟩) (fun _ => HT) ?_
        case hy133 => ((intro u' hT; go_simp); try with_reducible rfl)
        try simp only [List.getElem_toArray, List.getElem_cons_succ, List.getElem_cons_zero, Act.put, List.setIfInBounds_toArray, List.set_cons_zero, List.set_cons_succ]
        refine GoS.pure (i := 12) (v := ?_) rfl (by kernel_rfl) (by kernel_rfl) (by kernel_rfl) (by kernel_rfl) (fun _ _ _ h => h) (Or.inl ⟨by rfl, ?hy134⟩) (fun _ => HT) ?_
        case hy134 => ((intro u' hT; go_simp); try with_reducible rfl)
        try simp only [List.getElem_toArray, List.getElem_cons_succ, List.getElem_cons_zero, Act.put, List.setIfInBounds_toArray, List.set_cons_zero, List.set_cons_succ]
        refine GoS.pure (i := 13) (v := ?_) rfl (by kernel_rfl) (by kernel_rfl) (by kernel_rfl) (by kernel_rfl) (fun _ _ _ h => h) (Or.inl ⟨by rfl, ?hy135⟩) (fun _ => HT) ?_
        case hy135 => ((intro u' hT; go_simp); try with_reducible rfl)
        try simp only [List.getElem_toArray, List.getElem_cons_succ, List.getElem_cons_zero, Act.put, List.setIfInBounds_toArray, List.set_cons_zero, List.set_cons_succ]
        refine GoS.pure (i := 14) (v := ?_) rfl (by kernel_rfl) (by kernel_rfl) (by kernel_rfl) (by kernel_rfl) (fun _ _ _ h => h) (Or.inl ⟨by rfl, ?hy136⟩) (fun _ => HT) ?_
        case hy136 => ((intro u' hT; go_simp); try with_reducible rfl)
        try simp only [List.getElem_toArray, List.getElem_cons_succ, List.getElem_cons_zero, Act.put, List.setIfInBounds_toArray, List.set_cons_zero, List.set_cons_succ]
        refine GoS.take (i := 15) (v := ?_) rfl (by kernel_rfl) (by kernel_rfl) (by kernel_rfl) (by kernel_rfl) (fun _ _ _ h => h) (Or.inl ⟨by rfl, ?hy137⟩) HT ?_
        case hy137 => ((intro u' hT; have gev := hT.sh.ev; go_simp); try with_reducible rfl)
        try simp only [List.getElem_toArray, List.getElem_cons_succ, List.getElem_cons_zero, Act.put, List.setIfInBounds_toArray, List.set_cons_zero, List.set_cons_succ]
        refine GoS.pure (i := 16) (v := ?_) rfl (by kernel_rfl) (by kernel_rfl) (by kernel_rfl) (by kernel_rfl) (fun _ _ _ h => h) (Or.inl ⟨by rfl, ?hy138⟩) (fun _ => HT) ?_
        case hy138 => ((intro u' hT; go_simp); try with_reducible rfl)
        try simp only [List.getElem_toArray, List.getElem_cons_succ, List.getElem_cons_zero, Act.put, List.setIfInBounds_toArray, List.set_cons_zero, List.set_cons_succ]
        refine GoS.pure (i := 17) (v := ?_) rfl (by kernel_rfl) (by kernel_rfl) (by kernel_rfl) (by kernel_rfl) (fun _ _ _ h => h) (Or.inl ⟨by rfl, ?hy139⟩) (fun _ => HT) ?_
        case hy139 => ((intro u' hT; go_simp); try with_reducible rfl)
        try simp only [List.getElem_toArray, List.getElem_cons_succ, List.getElem_cons_zero, Act.put, List.setIfInBounds_toArray, List.set_cons_zero, List.set_cons_succ]
        refine GoS.pure (i := 18) (v := ?_) rfl (by kernel_rfl) (by kernel_rfl) (by kernel_rfl) (by kernel_rfl) (fun _ _ _ h => h) (Or.inl ⟨by rfl, ?hy140⟩) (fun _ => HT) ?_
        case hy140 => ((intro u' hT; go_simp); try with_reducible rfl)
        try simp only [List.getElem_toArray, List.getElem_cons_succ, List.getElem_cons_zero, Act.put, List.setIfInBounds_toArray, List.set_cons_zero, List.set_cons_succ]
        refine GoS.store (i := 19) (by kernel_rfl) rfl (by kernel_rfl) (fun K hK => ?_)
        go_simp
        refine hK.out _ _ ?_
        clear hK K
        try simp only [List.getElem_toArray, List.getElem_cons_succ, List.getElem_cons_zero, Act.put, List.setIfInBounds_toArray, List.set_cons_zero, List.set_cons_succ]
        refine GoS.done (by kernel_rfl) ?_
        gi_wp2_with (fail)
        gi_meet
        have KK := HLH.out; (try have ho := HO.out); (try have hh := HH.out)
        refine ⟨?_, ?_, Lib.hid HT⟩
        · unfold dnB; rw [decide_eq_false (fun e => by have := KK.1.2 e; omega), decide_eq_false (fun e => by have := KK.2.1.2 e; omega)]; simp
        · unfold hiB; rw [decide_eq_false (fun e => by have := KK.2.2.1.2 e; omega), decide_eq_true (KK.2.2.2.1 (by omega))]; simp
      · have ho1 : (lo == 0) = false := by simp; omega
        have ho2 : ¬ lo < 0 := by omega
        have hh1 : (hi == 0) = false := by simp; omega
        have hh2 : ¬ hi > 0 := by omega
        refine wpIn_region_S (fun u' => Rd w u1.heap.size W.heap.size (u1.heap.size + 2) (u1.heap.size + 3) v u' (dF D.num bl2 ab2 D.size D.point) (bs t) even r D.size) 19 (by kernel_rfl) (by kernel_rfl) (fun h => h.elim fun _ h => h.elim fun _ h => h) ?_
        have HT := RD.out.drew
        clear RD
        refine GoS.pure (i := 0) (v := ?_) rfl (by kernel_rfl) (by kernel_rfl) (by kernel_rfl) (by kernel_rfl) (fun _ _ _ h => h) (Or.inl ⟨by rfl, ?hy141⟩) (fun _ => HT) ?_
        case hy141 => ((intro u' hT; go_simp); try with_reducible rfl)
        try simp only [List.getElem_toArray, List.getElem_cons_zero, Act.put, List.setIfInBounds_toArray, List.set_cons_zero, List.set_cons_succ]
        refine GoS.pure (i := 1) (v := ?_) rfl (by kernel_rfl) (by kernel_rfl) (by kernel_rfl) (by kernel_rfl) (fun _ _ _ h => h) (Or.inl ⟨by rfl, ?hy142⟩) (fun _ => HT) ?_
        case hy142 => ((intro u' hT; go_simp); try with_reducible rfl)
        try simp only [List.getElem_toArray, List.getElem_cons_succ, List.getElem_cons_zero, Act.put, List.setIfInBounds_toArray, List.set_cons_zero, List.set_cons_succ]
        refine GoS.pure (i := 2) (v := ?_) rfl (by kernel_rfl) (by kernel_rfl) (by kernel_rfl) (by kernel_rfl) (fun _ _ _ h => h) (Or.inl ⟨by rfl, ?hy143⟩) (fun _ => HT) ?_
        case hy143 => ((intro u' hT; go_simp); try with_reducible rfl)
        try simp only [List.getElem_toArray, List.getElem_cons_succ, List.getElem_cons_zero, Act.put, List.setIfInBounds_toArray, List.set_cons_zero, List.set_cons_succ]
        refine GoS.pure (i := 3) (v := ?_) rfl (by kernel_rfl) (by kernel_rfl) (by kernel_rfl) (by kernel_rfl) (fun _ _ _ h => h) (Or.inl ⟨by rfl, ?hy144⟩) (fun _ => HT) ?_
        case hy144 => ((intro u' hT; go_simp); try with_reducible rfl)
        try simp only [List.getElem_toArray, List.getElem_cons_succ, List.getElem_cons_zero, Act.put, List.setIfInBounds_toArray, List.set_cons_zero, List.set_cons_succ]
        refine GoS.pure (i := 4) (v := ?_) rfl (by kernel_rfl) (by kernel_rfl) (by kernel_rfl) (by kernel_rfl) (fun _ _ _ h => h) (Or.inl ⟨by rfl, ?hy145⟩) (fun _ => HT) ?_
        case hy145 => ((intro u' hT; go_simp); try with_reducible rfl)
        try simp only [List.getElem_toArray, List.getElem_cons_succ, List.getElem_cons_zero, Act.put, List.setIfInBounds_toArray, List.set_cons_zero, List.set_cons_succ]
        refine GoS.pure (i := 5) (v := ?_) rfl (by kernel_rfl) (by kernel_rfl) (by kernel_rfl) (by kernel_rfl) (fun _ _ _ h => h) (Or.inl ⟨by rfl, ?hy146⟩) (fun _ => HT) ?_
        case hy146 => ((intro u' hT; go_simp); try with_reducible rfl)
        try simp only [List.getElem_toArray, List.getElem_cons_succ, List.getElem_cons_zero, Act.put, List.setIfInBounds_toArray, List.set_cons_zero, List.set_cons_succ]
        refine GoS.pure (i := 6) (v := undef) rfl (by kernel_rfl) (by kernel_rfl) (by kernel_rfl) (by kernel_rfl) (fun _ _ _ h => h) (Or.inr ⟨by rfl, rfl⟩) (fun _ => HT) ?_
        try simp only [List.getElem_toArray, List.getElem_cons_succ, List.getElem_cons_zero, Act.put, List.setIfInBounds_toArray, List.set_cons_zero, List.set_cons_succ]
        refine GoS.pure (i := 7) (v := ?_) rfl (by kernel_rfl) (by kernel_rfl) (by kernel_rfl) (by kernel_rfl) (fun _ _ _ h => h) (Or.inl ⟨by rfl, ?hy147⟩) (fun _ => HT) ?_
        case hy147 => ((intro u' hT; go_simp); try with_reducible rfl)
        try simp only [List.getElem_toArray, List.getElem_cons_succ, List.getElem_cons_zero, Act.put, List.setIfInBounds_toArray, List.set_cons_zero, List.set_cons_succ]
        refine GoS.pure (i := 8) (v := ?_) rfl (by kernel_rfl) (by kernel_rfl) (by kernel_rfl) (by kernel_rfl) (fun _ _ _ h => h) (Or.inl ⟨by rfl, ?hy148⟩) (fun _ => HT) ?_
        case hy148 => ((intro u' hT; go_simp); try with_reducible rfl)
        try simp only [List.getElem_toArray, List.getElem_cons_succ, List.getElem_cons_zero, Act.put, List.setIfInBounds_toArray, List.set_cons_zero, List.set_cons_succ]
        refine GoS.pure (i := 9) (v := ?_) rfl (by kernel_rfl) (by kernel_rfl) (by kernel_rfl) (by kernel_rfl) (fun _ _ _ h => h) (Or.inl ⟨by rfl, ?hy149⟩) (fun _ => HT) ?_
        case hy149 => ((intro u' hT; go_simp); try with_reducible rfl)
        try simp only [List.getElem_toArray, List.getElem_cons_succ, List.getElem_cons_zero, Act.put, List.setIfInBounds_toArray, List.set_cons_zero, List.set_cons_succ]
        refine GoS.pure (i := 10) (v := ?_) rfl (by kernel_rfl) (by kernel_rfl) (by kernel_rfl) (by kernel_rfl) (fun _ _ _ h => h) (Or.inl ⟨by rfl, ?hy150⟩) (fun _ => HT) ?_
        case hy150 => ((intro u' hT; go_simp); try with_reducible rfl)
        try simp only [List.getElem_toArray, List.getElem_cons_succ, List.getElem_cons_zero, Act.put, List.setIfInBounds_toArray, List.set_cons_zero, List.set_cons_succ]
        refine GoS.pure (i := 11) (v := ?_) rfl (by kernel_rfl) (by kernel_rfl) (by kernel_rfl) (by kernel_rfl) (fun _ _ _ h => h) (Or.inl ⟨by rfl, ?hy151⟩) (fun _ => HT) ?_
        case hy151 => ((intro u' hT; go_simp); try with_reducible rfl)
        try simp only [List.getElem_toArray, List.getElem_cons_succ, List.getElem_cons_zero, Act.put, List.setIfInBounds_toArray, List.set_cons_zero, List.set_cons_succ]
        refine GoS.pure (i := 12) (v := ?_) rfl (by kernel_rfl) (by kernel_rfl) (by kernel_rfl) (by kernel_rfl) (fun _ _ _ h => h) (Or.inl ⟨by rfl, ?hy152⟩) (fun _ => HT) ?_
        case hy152 => ((intro u' hT; go_simp); try with_reducible rfl)
        try simp only [List.getElem_toArray, List.getElem_cons_succ, List.getElem_cons_zero, Act.put, List.setIfInBounds_toArray, List.set_cons_zero, List.set_cons_succ]
        refine GoS.pure (i := 13) (v := ?_) rfl (by kernel_rfl) (by kernel_rfl) (by kernel_rfl) (by kernel_rfl) (fun _ _ _ h => h) (Or.inl ⟨by rfl, ?hy153⟩) (fun _ => HT) ?_
        case hy153 => ((intro u' hT; go_simp); try with_reducible rfl)
        try simp only [List.getElem_toArray, List.getElem_cons_succ, List.getElem_cons_zero, Act.put, List.setIfInBounds_toArray, List.set_cons_zero, List.set_cons_succ]
        refine GoS.pure (i := 14) (v := ?_) rfl (by kernel_rfl) (by kernel_rfl) (by kernel_rfl) (by kernel_rfl) (fun _ _ _ h => h) (Or.inl ⟨by rfl, ?hy154⟩) (fun _ => HT) ?_
        case hy154 => ((intro u' hT; go_simp); try with_reducible rfl)
        try simp only [List.getElem_toArray, List.getElem_cons_succ, List.getElem_cons_zero, Act.put, List.setIfInBounds_toArray, List.set_cons_zero, List.set_cons_succ]
        refine GoS.pure (i := 15) (v := undef) rfl (by kernel_rfl) (by kernel_rfl) (by kernel_rfl) (by kernel_rfl) (fun _ _ _ h => h) (Or.inr ⟨by rfl, rfl⟩) (fun _ => HT) ?_
        try simp only [List.getElem_toArray, List.getElem_cons_succ, List.getElem_cons_zero, Act.put, List.setIfInBounds_toArray, List.set_cons_zero, List.set_cons_succ]
        refine GoS.pure (i := 16) (v := ?_) rfl (by kernel_rfl) (by kernel_rfl) (by kernel_rfl) (by kernel_rfl) (fun _ _ _ h => h) (Or.inl ⟨by rfl, ?hy155⟩) (fun _ => HT) ?_
        case hy155 => ((intro u' hT; go_simp); try with_reducible rfl)
        try simp only [List.getElem_toArray, List.getElem_cons_succ, List.getElem_cons_zero, Act.put, List.setIfInBounds_toArray, List.set_cons_zero, List.set_cons_succ]
        refine GoS.pure (i := 17) (v := ?_) rfl (by kernel_rfl) (by kernel_rfl) (by kernel_rfl) (by kernel_rfl) (fun _ _ _ h => h) (Or.inl ⟨by rfl, ?hy156⟩) (fun _ => HT) ?_
        case hy156 => ((intro u' hT; go_simp); try with_reducible rfl)
        try simp only [List.getElem_toArray, List.getElem_cons_succ, List.getElem_cons_zero, Act.put, List.setIfInBounds_toArray, List.set_cons_zero, List.set_cons_succ]
        refine GoS.pure (i := 18) (v := ?_) rfl (by kernel_rfl) (by kernel_rfl) (by kernel_rfl) (by kernel_rfl) (fun _ _ _ h => h) (Or.inl ⟨by rfl, ?hy157⟩) (fun _ => HT) ?_
        case hy157 => ((intro u' hT; go_simp); try with_reducible rfl)
        try simp only [List.getElem_toArray, List.getElem_cons_succ, List.getElem_cons_zero, Act.put, List.setIfInBounds_toArray, List.set_cons_zero, List.set_cons_succ]
        refine GoS.store (i := 19) (by kernel_rfl) rfl (by kernel_rfl) (fun K hK => ?_)
        go_simp
        refine hK.out _ _ ?_
        clear hK K
        try simp only [List.getElem_toArray, List.getElem_cons_succ, List.getElem_cons_zero, Act.put, List.setIfInBounds_toArray, List.set_cons_zero, List.set_cons_succ]
        refine GoS.done (by kernel_rfl) ?_
        gi_wp2_with (fail)
        gi_meet
        have KK := HLH.out; (try have ho := HO.out); (try have hh := HH.out)
        refine ⟨?_, ?_, Lib.hid HT⟩
        · unfold dnB; rw [decide_eq_false (fun e => by have := KK.1.2 e; omega), decide_eq_false (fun e => by have := KK.2.1.2 e; omega)]; simp
        · unfold hiB; rw [decide_eq_false (fun e => by have := KK.2.2.1.2 e; omega), decide_eq_false (fun e => by have := KK.2.2.2.2 e; omega)]; simp
    obtain ⟨rfl, rfl, RD⟩ := hcut
    clear HLH
    obtain ⟨dn, hdn⟩ : ∃ b, dnB even r bl2 = b := ⟨_, rfl⟩
    obtain ⟨up, hup⟩ : ∃ b, hiB even ((r + ab2) % M384) D.size = b := ⟨_, rfl⟩
    rw [hdn, hup]
    have HDU := Lib.hid (And.intro hdn hup)
    clear hdn hup
    gi_upto_region 9 with (fail)
    gi_cut [66] from 45 (fun s66 wc => s66 = .bool (dn && up) ∧ Hid (Rd w u1.heap.size W.heap.size (u1.heap.size + 2) (u1.heap.size + 3) v wc (dF D.num bl2 ab2 D.size D.point) (bs t) even r D.size))
    case first => cases dn <;> cases up <;> (gi_wp2_with (fail); gi_meet; exact ⟨rfl, RD⟩)
    clear RD
    obtain ⟨rfl, RD⟩ := hcut
    gi_upto_if 66 with (fail)
    gi_cut [11] from 45 (fun s11 wc => s11 = .bool (incB even D.size q r bl2 ab2) ∧ Hid (Rd w u1.heap.size W.heap.size (u1.heap.size + 2) (u1.heap.size + 3) v wc (dF D.num bl2 ab2 D.size D.point) (bs t) even r D.size))
    case first =>
      rcases hb : dn && up with _ | _
      · gi_wp2_with (fail)
        gi_meet
        refine ⟨?_, RD⟩
        unfold incB; rw [HDU.out.1, HDU.out.2, hb]; rfl
      · have HB := Lib.hid hb; clear hb
        gi_upto_region 10 with (fail)
        refine wpIn_region_S (fun u' => Rd w u1.heap.size W.heap.size (u1.heap.size + 2) (u1.heap.size + 3) v u' (dF D.num bl2 ab2 D.size D.point) (bs t) even r D.size) 6 (by kernel_rfl) (by kernel_rfl) (fun h => h.elim fun _ h => h.elim fun _ h => h) ?_
        have HT := RD.out.drew
        clear RD
        refine GoS.take (i := 0) (v := ?_) rfl (by kernel_rfl) (by kernel_rfl) (by kernel_rfl) (by kernel_rfl) (fun _ _ _ h => h) (Or.inl ⟨by rfl, ?hy158⟩) HT ?_
        case hy158 => ((intro u' hT; obtain ⟨g0, g1, g2, g3, g4, g5⟩ := Six.cells hT.fr; go_simp); try with_reducible rfl)
        try simp only [List.getElem_toArray, List.getElem_cons_zero, Act.put, List.setIfInBounds_toArray, List.set_cons_zero, List.set_cons_succ]
        refine GoS.take (i := 1) (v := ?_) rfl (by kernel_rfl) (by kernel_rfl) (by kernel_rfl) (by kernel_rfl) (fun _ _ _ h => h) (Or.inl ⟨by rfl, ?hy159⟩) HT ?_
        case hy159 => ((intro u' hT; obtain ⟨g0, g1, g2, g3, g4, g5⟩ := Six.cells hT.fr; go_simp); try with_reducible rfl)
        try simp only [List.getElem_toArray, List.getElem_cons_succ, List.getElem_cons_zero, Act.put, List.setIfInBounds_toArray, List.set_cons_zero, List.set_cons_succ]
        refine GoS.take (i := 3) (v := ?_) rfl (by kernel_rfl) (by kernel_rfl) (by kernel_rfl) (by kernel_rfl) (fun _ _ _ h => h) (Or.inl ⟨by rfl, ?hy160⟩) HT ?_
        case hy160 => ((intro u' hT; skip; go_simp); try with_reducible rfl)
        try simp only [List.getElem_toArray, List.getElem_cons_succ, List.getElem_cons_zero, Act.put, List.setIfInBounds_toArray, List.set_cons_zero, List.set_cons_succ]
        refine GoS.take (i := 4) (v := ?_) rfl (by kernel_rfl) (by kernel_rfl) (by kernel_rfl) (by kernel_rfl) (fun _ _ _ h => h) (Or.inl ⟨by rfl, ?hy161⟩) HT ?_
        case hy161 => ((intro u' hT; obtain ⟨g0, g1, g2, g3, g4, g5⟩ := Dk.siz hT.sh.d; go_simp); try with_reducible rfl)
        try simp only [List.getElem_toArray, List.getElem_cons_succ, List.getElem_cons_zero, Act.put, List.setIfInBounds_toArray, List.set_cons_zero, List.set_cons_succ]
        refine GoS.one (i := 2) (by kernel_rfl) rfl (fun K hK => ?_)
        go_simp
        (with_reducible refine (plusm r r _).mono ?_)
        rintro e q162 ⟨rfl, hx162⟩
        have HT2 := HT.later hx162
        clear HT; have HT := HT2; clear HT2 hx162
        go_wp2_with fail
        refine hK.out _ _ HT (fun _ => ?_)
        clear hK K
        try simp only [List.getElem_toArray, List.getElem_cons_succ, List.getElem_cons_zero, Act.put, List.setIfInBounds_toArray, List.set_cons_zero, List.set_cons_succ]
        refine GoS.one (i := 5) (by kernel_rfl) rfl (fun K hK => ?_)
        go_simp
        (with_reducible refine (compare_any ((r + r) % M384) D.size (mod_N6 _) HP.out.2.1.size _).mono ?_)
        rintro e q163 ⟨rfl, hx163⟩
        have HT2 := HT.later hx163
        clear HT; have HT := HT2; clear HT2 hx163
        go_wp2_with fail
        refine hK.out _ _ HT (fun _ => ?_)
        clear hK K
        try simp only [List.getElem_toArray, List.getElem_cons_succ, List.getElem_cons_zero, Act.put, List.setIfInBounds_toArray, List.set_cons_zero, List.set_cons_succ]
        refine GoS.store (i := 6) (by kernel_rfl) rfl (by kernel_rfl) (fun K hK => ?_)
        go_simp
        refine hK.out _ _ ?_
        clear hK K
        try simp only [List.getElem_toArray, List.getElem_cons_succ, List.getElem_cons_zero, Act.put, List.setIfInBounds_toArray, List.set_cons_zero, List.set_cons_succ]
        refine GoS.done (by kernel_rfl) ?_
        have RD := Lib.hid HT; clear HT
        obtain ⟨ne, hne⟩ : ∃ ne, cmpN ((r + r) % M384) D.size = ne := ⟨_, rfl⟩
        have HNE : Hid ((ne > 0 ↔ D.size < (r + r) % M384) ∧ (ne = 0 ↔ (r + r) % M384 = D.size)) := Lib.hid (by rw [← hne]; exact ⟨cmpN_gt, cmpN_eq⟩)
        rw [hne]
        clear hne
        have hinc : Hid (incB even D.size q r bl2 ab2 = nrB ((r + r) % M384) D.size q) := Lib.hid (by unfold incB; rw [HDU.out.1, HDU.out.2, HB.out]; rfl)
        rcases (show ne > 0 ∨ ne = 0 ∨ ne < 0 by omega) with hh | hh | hh
        · gi_wp2_with (fail); gi_meet; refine ⟨?_, RD⟩; rw [hinc.out]; unfold nrB; rw [decide_eq_true (HNE.out.1.1 hh)]; rfl
        · have hh1 : (ne == 0) = true := by simp [hh]
          have hh2 : ¬ ne > 0 := by omega
          have HH := Lib.hid hh; clear hh
          rcases (show q % 2 = 0 ∨ q % 2 = 1 by omega) with hp | hp
          · have p1 : ((q : Int).tmod 2 == 1) = false := by rw [Int.tmod_eq_emod_of_nonneg (by omega)]; simp; omega
            have p2 : ((q : Int) % 2 == 1) = false := by simp; omega
            have HPP := Lib.hid hp; clear hp
            gi_wp2_with (fail); gi_meet; refine ⟨?_, RD⟩; rw [hinc.out]; unfold nrB; rw [decide_eq_false (fun e => by have := HNE.out.1.2 e; have := HH.out; omega), HPP.out]; simp
          · have p1 : ((q : Int).tmod 2 == 1) = true := by rw [Int.tmod_eq_emod_of_nonneg (by omega)]; simp; omega
            have p2 : ((q : Int) % 2 == 1) = true := by simp; omega
            have HPP := Lib.hid hp; clear hp
            gi_wp2_with (fail); gi_meet; refine ⟨?_, RD⟩; rw [hinc.out]; unfold nrB; rw [decide_eq_true (HNE.out.2.1 HH.out), HPP.out]; simp
        · have hh1 : (ne == 0) = false := by simp; omega
          have hh2 : ¬ ne > 0 := by omega
          gi_wp2_with (fail); gi_meet; refine ⟨?_, RD⟩; rw [hinc.out]; unfold nrB; rw [decide_eq_false (fun e => by have := HNE.out.1.2 e; omega), decide_eq_false (fun e => by have := HNE.out.2.2 e; omega)]; rfl
    clear RD
    obtain ⟨rfl, RD⟩ := hcut
    obtain ⟨inc, hinc⟩ : ∃ b, incB even D.size q r bl2 ab2 = b := ⟨_, rfl⟩
    rw [hinc]
    have HINC := Lib.hid hinc
    clear hinc
    gi_upto_if 84 with (fail)
    gi_cut [6] from 45 (fun s6 wc => s6 = .int .i64 ((digB even D.size q r bl2 ab2 : Nat) : Int) ∧ Hid (Rd w u1.heap.size W.heap.size (u1.heap.size + 2) (u1.heap.size + 3) v wc (dF D.num bl2 ab2 D.size D.point) (bs t) even r D.size))
    case first =>
      have ew : IntKind.i64.wrap ((q : Int) + 1) = (q : Int) + 1 := IntWalk.i64_in _ (by have := hql.out; constructor <;> omega)
      cases inc
      · gi_wp2_with (fail); gi_meet; refine ⟨?_, RD⟩; unfold digB; rw [HINC.out]; rfl
      · gi_wp2_with (fail); gi_meet; refine ⟨?_, RD⟩; unfold digB; rw [HINC.out]; simp
    clear RD
    obtain ⟨rfl, RD⟩ := hcut
    have hdg : Hid (digB even D.size q r bl2 ab2 ≤ 10) := Lib.hid (digB_le hql.out)
    generalize hdd : digB even D.size q r bl2 ab2 = dg at hdg ⊢
    have HDD := Lib.hid hdd
    clear hdd
    have hb1 : (bs t).size ≤ 1000 := by have := HQ.out.2.2.2.2.2; have e : (bs t).size = t.length := (by show t.toArray.size = _; simp); omega
    have hb2 : (bs (itoaD dg)).size ≤ 1000 := by have := itoaD_len dg; have e : (bs (itoaD dg)).size = (itoaD dg).length := (by show (itoaD dg).toArray.size = _; simp); omega
    have hb3 : ¬ 9223372036854775807 < (bs t).size + (bs (itoaD dg)).size := by omega
    gi_upto_region 14 with (fail)
    refine wpIn_region_S (fun u' => Rd w u1.heap.size W.heap.size (u1.heap.size + 2) (u1.heap.size + 3) v u' (dF D.num bl2 ab2 D.size D.point) (bs t) even r D.size) 4 (by kernel_rfl) (by kernel_rfl) (fun h => h.elim fun _ h => h.elim fun _ h => h) ?_
    have HT := RD.out.drew
    clear RD
    refine GoS.take (i := 0) (v := ?_) rfl (by kernel_rfl) (by kernel_rfl) (by kernel_rfl) (by kernel_rfl) (fun _ _ _ h => h) (Or.inl ⟨by rfl, ?hy164⟩) HT ?_
    case hy164 => ((intro u' hT; have gt := hT.sh.t; go_simp); try with_reducible rfl)
    try simp only [List.getElem_toArray, List.getElem_cons_zero, Act.put, List.setIfInBounds_toArray, List.set_cons_zero, List.set_cons_succ]
    refine GoS.pure (i := 1) (v := ?_) rfl (by kernel_rfl) (by kernel_rfl) (by kernel_rfl) (by kernel_rfl) (fun _ _ _ h => h) (Or.inl ⟨by rfl, ?hy165⟩) (fun _ => HT) ?_
    case hy165 => ((intro u' hT; go_simp); try with_reducible rfl)
    try simp only [List.getElem_toArray, List.getElem_cons_succ, List.getElem_cons_zero, Act.put, List.setIfInBounds_toArray, List.set_cons_zero, List.set_cons_succ]
    refine GoS.one (i := 2) (by kernel_rfl) rfl (fun K hK => ?_)
    go_simp
    (with_reducible refine (HI.out dg hdg.out _ HT.sh.e).mono ?_)
    rintro e q166 ⟨rfl, hx166⟩
    have HT2 := HT.later hx166
    clear HT; have HT := HT2; clear HT2 hx166
    go_wp2_with fail
    refine hK.out _ _ HT (fun _ => ?_)
    clear hK K
    try simp only [List.getElem_toArray, List.getElem_cons_succ, List.getElem_cons_zero, Act.put, List.setIfInBounds_toArray, List.set_cons_zero, List.set_cons_succ]
    refine GoS.pure (i := 3) (v := ?_) rfl (by kernel_rfl) (by kernel_rfl) (by kernel_rfl) (by kernel_rfl) (fun _ _ _ h => h) (Or.inl ⟨by rfl, ?hy167⟩) (fun _ => HT) ?_
    case hy167 => ((intro u' hT; go_simp); try with_reducible rfl)
    try simp only [List.getElem_toArray, List.getElem_cons_succ, List.getElem_cons_zero, Act.put, List.setIfInBounds_toArray, List.set_cons_zero, List.set_cons_succ]
    have gt := HT.sh.t
    have gf := HT.sh.tf
    refine GoS.store (i := 4) (by kernel_rfl) rfl (by kernel_rfl) (fun K hK => ?_)
    go_simp
    refine hK.out _ _ ?_
    clear hK K
    try simp only [List.getElem_toArray, List.getElem_cons_succ, List.getElem_cons_zero, Act.put, List.setIfInBounds_toArray, List.set_cons_zero, List.set_cons_succ]
    clear gt gf
    refine GoS.done (by kernel_rfl) ?_
    have RT := HT.text (bs t ++ bs (itoaD dg))
    rw [bs_append] at RT ⊢
    generalize World.setCell _ ⟨w.heap.size + 1, 0, none⟩ (.string (bs (t ++ itoaD dg))) = wt at RT ⊢
    clear HT RD hb1 hb2 hb3
    have RD := Lib.hid RT
    clear RT
    have HST : Hid (stopB even D.size q r bl2 ab2 = (dn || inc)) := Lib.hid (by unfold stopB; rw [HDU.out.1, HINC.out])
    rcases hd : dn || inc with _ | _
    · have HD2 := Lib.hid hd; clear hd
      obtain ⟨j, hj, j1, j2, j3⟩ := round_go HRQ.out.1 HRQ.out.2 HAB.out.1 HAB.out.2 HQ.out.2.2.2.2.1 (by rw [HST.out, HD2.out]) HQ.out.2.2.2.1 HQ.out.2.2.2.2.2 hql.out
      rw [HDD.out] at j2 j3
      have HJ := Lib.hid (And.intro hj (And.intro j1 (And.intro j2 j3)))
      clear hj j1 j2 j3
      obtain ⟨d1, d2⟩ : dn = false ∧ inc = false := by have := HD2.out; cases dn <;> cases inc <;> simp_all
      subst d1 d2
      gi_wp2_with (fail)
      refine ⟨RD.out.k, j, by have := HJ.out.1; omega, bl2, ab2, t ++ itoaD dg, RD.out.sh, by rw [HRQ.out.1]; exact RD.out.fn, RD.out.fs, Lib.hid ⟨by rw [HRQ.out.1]; exact hrl.out, HBA.out.1, HBA.out.2, by rw [HRQ.out.1]; exact HJ.out.2.2.1, by rw [HRQ.out.1]; exact HJ.out.2.1, HJ.out.2.2.2⟩⟩
    · have HD2 := Lib.hid hd; clear hd
      have HX := Lib.hid (round_stop HRQ.out.1 HRQ.out.2 HAB.out.1 HAB.out.2 HQ.out.2.2.2.2.1 (by rw [HST.out, HD2.out]) HQ.out.2.2.2.1)
      cases dn
      · obtain rfl : inc = true := by have := HD2.out; cases inc <;> simp_all
        gi_wp2_with (fail)
        have hX := HX.out; rw [HDD.out] at hX
        have hs := RD.out.sh; rw [hX] at hs
        exact ⟨RD.out.k, rfl, bl2, ab2, hs⟩
      · gi_wp2_with (fail)
        have hX := HX.out; rw [HDD.out] at hX
        have hs := RD.out.sh; rw [hX] at hs
        exact ⟨RD.out.k, rfl, bl2, ab2, hs⟩
  case hstop =>
    rintro D' c W ⟨rfl, bl, ab, hsh⟩ hK hD'
    have HS := Lib.hid hsh
    have HK := Lib.hid hK
    have gt := hsh.t
    have gf := hsh.tf
    have gp := Dk.pnt hsh.d
    have ep : IntKind.i64.wrap (D.point + 1) = D.point + 1 := IntWalk.i64_in _ (by have := HP.out.2.2.2; constructor <;> omega)
    clear hsh hK
    try dsimp only at gt gp
    generalize hT : txt (shortL even D.size 60 D.num D.below D.above) = X at *
    by_cases hE : X = [49, 48]
    · have gt' : W.cell? ⟨w.heap.size + 1, 0, none⟩ = some (.string ⟨#[49, 48]⟩) := by rw [gt, hE]; rfl
      have hsT : shT D even = ([49], D.point + 1) := by unfold shT; simp only [hT, hE, if_true]
      have HT := Lib.hid hsT
      clear gt hE hsT
      gi_upto_region 17 with (fail)
      refine wpIn_wide.2 ?_
      go_region
      all_goals
        gi_wp2
        have hh := HS.out.h
        have E := sh_end (T0 := ⟨#[49]⟩) HS.out HK.out (by omega)
        refine ⟨by simp, .inl ⟨_, _, rfl, run_takeDeferred E.1, ?_⟩⟩
        refine ⟨.tuple #[.string ⟨#[49]⟩, .int .i64 (D.point + 1)], ?_, (by rw [HT.out]; try rfl), E.2.2⟩
        simp [results, Tryz.f90, go_sem, E.2.1]
    · have h0 : (bs X).toList = X := by rw [Lib.toList_data]; simp [bs]
      have h1 : ((bs X).toList == [49, 48]) = false := by rw [h0]; simpa using hE
      clear h0
      have hsT : shT D even = (X, D.point) := by unfold shT; simp only [hT]; rw [if_neg hE]
      have HT := Lib.hid hsT
      clear hE hsT
      gi_upto_region 18 with (fail)
      refine wpIn_wide.2 ?_
      go_region
      all_goals
        gi_wp2
        have hh := HS.out.h
        have E := sh_end (T0 := bs X) HS.out HK.out (by omega)
        refine ⟨by simp, .inl ⟨_, _, rfl, run_takeDeferred E.1, ?_⟩⟩
        refine ⟨.tuple #[.string (bs X), .int .i64 (D.point)], ?_, (by rw [HT.out]; try rfl), E.2.2⟩
        simp [results, Tryz.f90, go_sem, E.2.1]
end Go.Proofs.YtogfiekbikechaaGreatDoor
