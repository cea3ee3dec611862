/- Layer 1: the span of what an operation gives on the ends of two spans. -/
import Derived.Test.YtmcajdfbkhaplaaRa
import Derived.Test.YtmcajdfbkhaplaaRb
namespace Go.Proofs.Ytmcajdfbkhaplaa
open Go.RowKit Go.Shelf
attribute [local go_sem] Oper.semAt_some

/-- What the function's own blocks hold when the loop begins. -/
structure ReachAt (g : Nat) (a b c d : Int) (w W : World) : Prop where
  sz : W.heap.size = w.heap.size + 1 + 1 + 1 + 1 + 1 + 1 + 1 + 1
  bel : Below w.heap.size w W
  fn : W.cell? ⟨w.heap.size + 1 + 1, 0, none⟩ = some (.func (.func g) #[] #[])
  r0 : W.cell? ⟨w.heap.size + 1 + 1 + 1, 0, none⟩ = some (.int .i64 0)
  r1 : W.cell? ⟨w.heap.size + 1 + 1 + 1, 1, none⟩ = some (.int .i64 0)
  rf0 : W.frozen? ⟨w.heap.size + 1 + 1 + 1, 0, none⟩ = false
  rf1 : W.frozen? ⟨w.heap.size + 1 + 1 + 1, 1, none⟩ = false
  a0 : W.cell? ⟨w.heap.size + 1 + 1 + 1 + 1, 0, none⟩ = some (.int .i64 0)
  a1 : W.cell? ⟨w.heap.size + 1 + 1 + 1 + 1, 1, none⟩ = some (.int .i64 0)
  a2 : W.cell? ⟨w.heap.size + 1 + 1 + 1 + 1, 2, none⟩ = some (.int .i64 0)
  a3 : W.cell? ⟨w.heap.size + 1 + 1 + 1 + 1, 3, none⟩ = some (.int .i64 0)
  f0 : W.frozen? ⟨w.heap.size + 1 + 1 + 1 + 1, 0, none⟩ = false
  f1 : W.frozen? ⟨w.heap.size + 1 + 1 + 1 + 1, 1, none⟩ = false
  f2 : W.frozen? ⟨w.heap.size + 1 + 1 + 1 + 1, 2, none⟩ = false
  f3 : W.frozen? ⟨w.heap.size + 1 + 1 + 1 + 1, 3, none⟩ = false
  m0 : W.cell? ⟨w.heap.size + 1 + 1 + 1 + 1 + 1, 0, none⟩ = some (.int .i64 0)
  mf : W.frozen? ⟨w.heap.size + 1 + 1 + 1 + 1 + 1, 0, none⟩ = false
  ca : W.cell? ⟨w.heap.size + 1 + 1 + 1 + 1 + 1 + 1, 0, none⟩ = some (.int .i64 a)
  cb : W.cell? ⟨w.heap.size + 1 + 1 + 1 + 1 + 1 + 1, 1, none⟩ = some (.int .i64 b)
  cc : W.cell? ⟨w.heap.size + 1 + 1 + 1 + 1 + 1 + 1 + 1, 0, none⟩ = some (.int .i64 c)
  cd : W.cell? ⟨w.heap.size + 1 + 1 + 1 + 1 + 1 + 1 + 1, 1, none⟩ = some (.int .i64 d)

theorem reachAt (g : Nat) (a b c d : Int) (w : World) : ReachAt g a b c d w
    ((((((((w.alloc (Obj.cells #[Value.int IntKind.i64 a, Value.int IntKind.i64 b] 35)).alloc (Obj.cells #[Value.int IntKind.i64 c, Value.int IntKind.i64 d] 35)).alloc (Obj.cells #[Value.func (Fn.func g) #[] #[]] 55)).alloc (Obj.cells #[Value.int IntKind.i64 0, Value.int IntKind.i64 0] 35)).alloc
      (Obj.cells #[Value.int IntKind.i64 0, Value.int IntKind.i64 0, Value.int IntKind.i64 0, Value.int IntKind.i64 0] 63)).alloc (Obj.cells #[Value.int IntKind.i64 0] 3)).alloc (Obj.cells #[Value.int IntKind.i64 a, Value.int IntKind.i64 b] 35)).alloc (Obj.cells #[Value.int IntKind.i64 c, Value.int IntKind.i64 d] 35)) := by
  constructor <;> first | (simp [go_sem]; done) | (go_grown; done)


/-- What has come so far. -/
def nth (op : Int → Int → Int) {P : Int → Int → Prop} (pre : List { x : Int × Int // P x.1 x.2 }) (j : Nat) : Int := (pre.map fun x => op x.1.1 x.1.2).getD j 0
theorem nth_snoc (op : Int → Int → Int) {P : Int → Int → Prop} (pre : List { x : Int × Int // P x.1 x.2 }) (x : { x : Int × Int // P x.1 x.2 }) (j : Nat) :
    nth op (pre ++ [x]) j = if j = pre.length then op x.1.1 x.1.2 else nth op pre j := by
  unfold nth
  rw [List.map_append]
  simp only [List.getD, List.getElem?_append, List.length_map, List.map_cons, List.map_nil]
  by_cases h : j = pre.length
  · subst h; simp
  · rw [if_neg h]
    by_cases h' : j < pre.length
    · rw [if_pos h']
    · rw [if_neg h', List.getElem?_eq_none (by simp; omega), List.getElem?_eq_none (by simp; omega)]
theorem ReachAt.arr {g : Nat} {a b c d : Int} {w W : World} (h : ReachAt g a b c d w W) (op : Int → Int → Int) (P : Int → Int → Prop) :
    ∀ j, j < 4 → W.cell? ⟨w.heap.size + 1 + 1 + 1 + 1, j, none⟩ = some (.int .i64 (nth op (P := P) [] j)) ∧ W.frozen? ⟨w.heap.size + 1 + 1 + 1 + 1, j, none⟩ = false := by
  intro j hj
  rcases (show j = 0 ∨ j = 1 ∨ j = 2 ∨ j = 3 by omega) with rfl | rfl | rfl | rfl
  · exact ⟨h.a0, h.f0⟩
  · exact ⟨h.a1, h.f1⟩
  · exact ⟨h.a2, h.f2⟩
  · exact ⟨h.a3, h.f3⟩

theorem reach_end {w W : World} {A D : Nat} (u v : Value) (hA : w.heap.size ≤ A) (hD : w.heap.size ≤ D) (h0 : ∃ z, W.cell? ⟨A, 0, none⟩ = some z) (h1 : ∃ z, W.cell? ⟨A, 1, none⟩ = some z) (hB : Below w.heap.size w W) (hK : W.heap[D]? = some (.deferred (some []))) :
    ((W.setCell ⟨A, 0, none⟩ u).setCell ⟨A, 1, none⟩ v).drew.heap[D]? = some (.deferred (some [])) ∧
    (((W.setCell ⟨A, 0, none⟩ u).setCell ⟨A, 1, none⟩ v).drew.putObj D (.deferred none)).cell? ⟨A, 0, none⟩ = some u ∧
    (((W.setCell ⟨A, 0, none⟩ u).setCell ⟨A, 1, none⟩ v).drew.putObj D (.deferred none)).cell? ⟨A, 1, none⟩ = some v ∧
    Ext w (((W.setCell ⟨A, 0, none⟩ u).setCell ⟨A, 1, none⟩ v).drew.putObj D (.deferred none)) := by
  obtain ⟨z0, h0⟩ := h0
  obtain ⟨z1, h1⟩ := h1
  have hk := ((KeepsOthers.setCell W ⟨A, 0, none⟩ u).trans (KeepsOthers.setCell _ ⟨A, 1, none⟩ v)).trans (KeepsOthers.drew _)
  have hK' := hk.same D _ hK rfl
  have c0 : (W.setCell ⟨A, 0, none⟩ u).cell? ⟨A, 0, none⟩ = some u := World.cell?_setCell_same' _ _ _ (by rw [h0]; rfl)
  have c1 : (W.setCell ⟨A, 0, none⟩ u).cell? ⟨A, 1, none⟩ = some z1 := by rw [World.cell?_setCell_other _ _ _ _ (by simp)]; exact h1
  have d0 : ((W.setCell ⟨A, 0, none⟩ u).setCell ⟨A, 1, none⟩ v).drew.cell? ⟨A, 0, none⟩ = some u := by
    show ((W.setCell ⟨A, 0, none⟩ u).setCell ⟨A, 1, none⟩ v).cell? ⟨A, 0, none⟩ = some u
    rw [World.cell?_setCell_other _ _ _ _ (by simp)]; exact c0
  have d1 : ((W.setCell ⟨A, 0, none⟩ u).setCell ⟨A, 1, none⟩ v).drew.cell? ⟨A, 1, none⟩ = some v := World.cell?_setCell_same' _ _ _ (by rw [c1]; rfl)
  refine ⟨hK', cell_kept d0 (grownBy_putObj' _ D (.deferred none)) (fun r e => by cases e; exact ⟨_, hK', rfl⟩), cell_kept d1 (grownBy_putObj' _ D (.deferred none)) (fun r e => by cases e; exact ⟨_, hK', rfl⟩), ⟨?_⟩⟩
  exact (((hB.setCell (p := ⟨A, 0, none⟩) hA u).setCell (p := ⟨A, 1, none⟩) hA v).drew).trans (belowK_b (w := w) (Nat.le_refl _) _ D _ _ hD hK' rfl rfl)

theorem reach_step {w W : World} {A M B1 B2 k : Nat} (v m : Value) (hA : w.heap.size ≤ A) (hM : w.heap.size ≤ M) (hAM : A ≠ M) (a1 : A ≠ B1) (a2 : A ≠ B2) (m1 : M ≠ B1) (m2 : M ≠ B2)
    (hk : ∃ z, W.cell? ⟨A, k, none⟩ = some z) (hm : ∃ z, W.cell? ⟨M, 0, none⟩ = some z) (hB : Below w.heap.size w W) :
    KeepsOthers W ((W.setCell ⟨A, k, none⟩ v).setCell ⟨M, 0, none⟩ m).drew ∧ KeepsAt B1 B2 W ((W.setCell ⟨A, k, none⟩ v).setCell ⟨M, 0, none⟩ m).drew ∧
    Below w.heap.size w ((W.setCell ⟨A, k, none⟩ v).setCell ⟨M, 0, none⟩ m).drew ∧
    (∀ b o, b ≠ A → b ≠ M → ((W.setCell ⟨A, k, none⟩ v).setCell ⟨M, 0, none⟩ m).drew.cell? ⟨b, o, none⟩ = W.cell? ⟨b, o, none⟩) ∧
    (∀ a, ((W.setCell ⟨A, k, none⟩ v).setCell ⟨M, 0, none⟩ m).drew.frozen? a = W.frozen? a) ∧
    (∀ j, ((W.setCell ⟨A, k, none⟩ v).setCell ⟨M, 0, none⟩ m).drew.cell? ⟨A, j, none⟩ = if j = k then some v else W.cell? ⟨A, j, none⟩) ∧
    ((W.setCell ⟨A, k, none⟩ v).setCell ⟨M, 0, none⟩ m).drew.cell? ⟨M, 0, none⟩ = some m := by
  obtain ⟨z0, h0⟩ := hk
  obtain ⟨z1, h1⟩ := hm
  have c0 : (W.setCell ⟨A, k, none⟩ v).cell? ⟨A, k, none⟩ = some v := World.cell?_setCell_same' _ _ _ (by rw [h0]; rfl)
  have c1 : (W.setCell ⟨A, k, none⟩ v).cell? ⟨M, 0, none⟩ = some z1 := by rw [World.cell?_setCell_other _ _ _ _ (by first | (simp; done) | (simp [hAM]; done))]; exact h1
  refine ⟨((KeepsOthers.setCell W ⟨A, k, none⟩ v).trans (KeepsOthers.setCell _ ⟨M, 0, none⟩ m)).trans (KeepsOthers.drew _), ⟨?_, ?_⟩, ((hB.setCell (p := ⟨A, k, none⟩) hA v).setCell (p := ⟨M, 0, none⟩) hM m).drew, ?_, ?_, ?_, ?_⟩
  · show ((W.setCell ⟨A, k, none⟩ v).setCell ⟨M, 0, none⟩ m).heap[B1]? = _
    rw [Below.heap_setCell _ _ _ _ (by first | (simp; done) | (simp; omega)), Below.heap_setCell _ _ _ _ (by first | (simp; done) | (simp; omega))]
  · show ((W.setCell ⟨A, k, none⟩ v).setCell ⟨M, 0, none⟩ m).heap[B2]? = _
    rw [Below.heap_setCell _ _ _ _ (by first | (simp; done) | (simp; omega)), Below.heap_setCell _ _ _ _ (by first | (simp; done) | (simp; omega))]
  · intro b o hbA hbM
    show ((W.setCell ⟨A, k, none⟩ v).setCell ⟨M, 0, none⟩ m).cell? ⟨b, o, none⟩ = _
    rw [World.cell?_setCell_other _ _ _ _ (by first | (simp; done) | (simp; omega)), World.cell?_setCell_other _ _ _ _ (by first | (simp; done) | (simp; omega))]
  · intro a
    show ((W.setCell ⟨A, k, none⟩ v).setCell ⟨M, 0, none⟩ m).frozen? a = _
    rw [World.frozen?_setCell, World.frozen?_setCell]
  · intro j
    show ((W.setCell ⟨A, k, none⟩ v).setCell ⟨M, 0, none⟩ m).cell? ⟨A, j, none⟩ = _
    rw [World.cell?_setCell_other _ _ _ _ (by first | (simp; done) | (simp; omega))]
    by_cases hj : j = k
    · subst hj; rw [if_pos rfl]; exact c0
    · rw [if_neg hj, World.cell?_setCell_other _ _ _ _ (by first | (simp; done) | (simp; omega))]
  · exact World.cell?_setCell_same' _ _ _ (by rw [c1]; rfl)

set_option maxRecDepth 100000 in
set_option maxHeartbeats 4000000 in
theorem reach_any (g : Nat) (op : Int → Int → Int) (P : Int → Int → Prop) (eg : ∀ args w, (callFunc g args).run Try.prog w = .ok (.enter g args) w) (hop : ∀ (x y : Int) (w : World), P x y → Calls Try.prog g #[.int .i64 x, .int .i64 y] w fun e w' => e = .returned (.int .i64 (op x y)) ∧ w = w')
    (a b c d : Int) (p1 : P a c) (p2 : P a d) (p3 : P b c) (p4 : P b d) (w : World) :
    Calls Try.prog 88 #[.agg #[.int .i64 a, .int .i64 b], .agg #[.int .i64 c, .int .i64 d], .func (.func g) #[] #[]] w fun e w' =>
      e = .returned (.agg #[.int .i64 (min (min (min (op a c) (op a d)) (op b c)) (op b d)), .int .i64 (max (max (max (op a c) (op a d)) (op b c)) (op b d))]) ∧ Ext w w' := by
  refine (callsIn_wide (n := 4)).1 ?_
  refine callsIn_of_wp_marks Try.func88 rfl trivial ?_ rfl
  simp only [Try.ntmps88, List.size_toArray, List.length_cons, List.length_nil, Nat.reduceAdd, Nat.reduceSub, Array.replicate_succ, Array.replicate_zero, List.push_toArray, List.append_toArray, List.nil_append, List.cons_append]
  gi_wp2_with (refine ⟨trivial, ?_⟩; gi_at_call 92; refine (pairs_in _ _ _ _ _).mono ?_; rintro e w' ⟨rfl, rfl⟩)
  have hR := reachAt g a b c d w
  generalize hW0 : ((((((((w.alloc (Obj.cells #[Value.int IntKind.i64 a, Value.int IntKind.i64 b] 35)).alloc (Obj.cells #[Value.int IntKind.i64 c, Value.int IntKind.i64 d] 35)).alloc (Obj.cells #[Value.func (Fn.func g) #[] #[]] 55)).alloc (Obj.cells #[Value.int IntKind.i64 0, Value.int IntKind.i64 0] 35)).alloc
      (Obj.cells #[Value.int IntKind.i64 0, Value.int IntKind.i64 0, Value.int IntKind.i64 0, Value.int IntKind.i64 0] 63)).alloc (Obj.cells #[Value.int IntKind.i64 0] 3)).alloc (Obj.cells #[Value.int IntKind.i64 a, Value.int IntKind.i64 b] 35)).alloc (Obj.cells #[Value.int IntKind.i64 c, Value.int IntKind.i64 d] 35)) = W0 at hR ⊢
  clear hW0
  have hsz := hR.sz
  refine wpIn_rangeFunc_ownF rfl (by omega) (gf := 95) (lb := #[.pointer (some ⟨w.heap.size + 1 + 1 + 1 + 1 + 1 + 1, 0, none⟩), .pointer (some ⟨w.heap.size + 1 + 1 + 1 + 1 + 1 + 1 + 1, 0, none⟩)]) rfl trivial (enters_of Try.func95 (by kernel_rfl) rfl)
    (pairs_stops (P := P) (w.heap.size + 1 + 1 + 1 + 1 + 1 + 1) (w.heap.size + 1 + 1 + 1 + 1 + 1 + 1 + 1) a b c d p1 p2 p3 p4 W0 (by omega) (by omega) hR.ca hR.cb hR.cc hR.cd) KeepsAt.trans (keepsAt_b (by omega) (by omega)) (Below.refl _ _) (fun _ => rfl)
    (fun pre W => (W.cell? ⟨w.heap.size + 1 + 1, 0, none⟩ = some (.func (.func g) #[] #[]) ∧ W.cell? ⟨w.heap.size + 1 + 1 + 1, 0, none⟩ = some (.int .i64 0) ∧ W.cell? ⟨w.heap.size + 1 + 1 + 1, 1, none⟩ = some (.int .i64 0) ∧ W.frozen? ⟨w.heap.size + 1 + 1 + 1, 0, none⟩ = false ∧ W.frozen? ⟨w.heap.size + 1 + 1 + 1, 1, none⟩ = false ∧
      (∀ j, j < 4 → W.cell? ⟨w.heap.size + 1 + 1 + 1 + 1, j, none⟩ = some (.int .i64 (nth op pre j)) ∧ W.frozen? ⟨w.heap.size + 1 + 1 + 1 + 1, j, none⟩ = false) ∧
      W.cell? ⟨w.heap.size + 1 + 1 + 1 + 1 + 1, 0, none⟩ = some (.int .i64 (pre.length : Int)) ∧ W.frozen? ⟨w.heap.size + 1 + 1 + 1 + 1 + 1, 0, none⟩ = false) ∧ Below w.heap.size w W)
    (fun _ _ _ => False)
    (OwnFrom.and (Own.from (fun s A B row hs hg hr => by
      obtain ⟨k1, k2, k3, k4, k5, k6, k10, l10⟩ := hs
      exact ⟨cell_kept k1 hg hr, cell_kept k2 hg hr, cell_kept k3 hg hr, (frozen_kept k2 hg hr).trans k4, (frozen_kept k3 hg hr).trans k5, (fun j hj => ⟨cell_kept (k6 j hj).1 hg hr, (frozen_kept (k6 j hj).1 hg hr).trans (k6 j hj).2⟩), cell_kept k10 hg hr, (frozen_kept k10 hg hr).trans l10⟩) _) (ownFrom_below (Nat.le_refl _) (by omega)))
    (fun c => Own.from (fun _ _ _ _ hs _ _ => hs) _)
    ⟨⟨hR.fn, hR.r0, hR.r1, hR.rf0, hR.rf1, hR.arr op P, hR.m0, hR.mf⟩, hR.bel⟩
    (fun x => { tmps := #[.agg #[.int .i64 a, .int .i64 b], .agg #[.int .i64 c, .int .i64 d], .func (.func g) #[] #[], .pointer (some ⟨w.heap.size, 0, none⟩), .pointer (some ⟨w.heap.size + 1, 0, none⟩), .pointer (some ⟨w.heap.size + 1 + 1, 0, none⟩), .pointer (some ⟨w.heap.size + 1 + 1 + 1, 0, none⟩), .pointer (some ⟨w.heap.size + 1 + 1 + 1 + 1, 0, none⟩), .pointer (some ⟨w.heap.size + 1 + 1 + 1 + 1 + 1, 0, none⟩), .int .i64 x.1.1, .int .i64 x.1.2,
      .agg #[.int .i64 a, .int .i64 b], .agg #[.int .i64 c, .int .i64 d], .func (.func 95) #[] #[.pointer (some ⟨w.heap.size + 1 + 1 + 1 + 1 + 1 + 1, 0, none⟩), .pointer (some ⟨w.heap.size + 1 + 1 + 1 + 1 + 1 + 1 + 1, 0, none⟩)], .int .i64 x.1.1, .int .i64 x.1.2, undef, undef, undef, undef, undef, undef, undef, undef, undef, undef, undef, undef, undef], defers := [] }) ?assign ?body ?done ?stop
  case assign =>
    intro l x W K hK
    gi_wp2
    exact hK
  case body =>
    rintro l pre x W ⟨⟨k1, k2, k3, k4, k5, k6, k10, l10⟩, hB⟩ hlen
    have hmx : Try.prog.follows .mixedOrders = true := by kernel_rfl
    have hx := x.2
    obtain ⟨kk, ll⟩ := k6 pre.length hlen
    have K6 := Lib.hid k6
    have K2 := Lib.hid k2
    have K3 := Lib.hid k3
    have K4 := Lib.hid k4
    have K5 := Lib.hid k5
    clear k6 k2 k3 k4 k5
    have hl1 : (pre.length : Int) < 4 := by omega
    gi_wp2
    gi_region_with_o ((try refine ⟨trivial, ?_⟩); refine (CallsIn.inRound l (callsIn_wide.2 (hop _ _ _ hx))).mono ?_; rintro e w' ⟨rfl, rfl⟩)
    all_goals gi_wp2
    all_goals
      obtain ⟨s1, s2, s3, s4, s5, s6, s7⟩ := reach_step (A := w.heap.size + 1 + 1 + 1 + 1) (M := w.heap.size + 1 + 1 + 1 + 1 + 1) (B1 := w.heap.size + 1 + 1 + 1 + 1 + 1 + 1) (B2 := w.heap.size + 1 + 1 + 1 + 1 + 1 + 1 + 1) (k := pre.length) (.int .i64 (op x.1.1 x.1.2)) (.int .i64 ((pre.length : Int) + 1)) (by omega) (by omega) (by omega) (by omega) (by omega) (by omega) (by omega) ⟨_, kk⟩ ⟨_, k10⟩ hB
      exact ⟨s1, s2, ⟨(s4 _ _ (by omega) (by omega)).trans k1, (s4 _ _ (by omega) (by omega)).trans K2.out, (s4 _ _ (by omega) (by omega)).trans K3.out, (s5 _).trans K4.out, (s5 _).trans K5.out, fun j hj => ⟨by rw [s6, nth_snoc]; split <;> first | rfl | exact (K6.out j hj).1, (s5 _).trans (K6.out j hj).2⟩, by rw [s7]; simp, (s5 _).trans l10⟩, s3⟩
  case done =>
    rintro D xs W hD rfl ⟨⟨k1, k2, k3, k4, k5, k6, k10, l10⟩, hB⟩ hK
    obtain ⟨c0, f0⟩ := k6 0 (by omega)
    obtain ⟨c1, f1⟩ := k6 1 (by omega)
    obtain ⟨c2, f2⟩ := k6 2 (by omega)
    obtain ⟨c3, f3⟩ := k6 3 (by omega)
    clear k6 k1 k10 l10
    simp [nth] at c0 c1 c2 c3
    have hmx : Try.prog.follows .mixedOrders = true := by kernel_rfl
    gi_wp2
    first | gi_region_with_o ((try refine ⟨trivial, ?_⟩); first | (gi_at_call 93; refine (callsIn_wide.2 (min_four _ _ _ _ _ _ (by exact c0) (by exact c1) (by exact c2) (by exact c3))).mono ?_; rintro e w' ⟨rfl, rfl⟩) | (gi_at_call 94; refine (callsIn_wide.2 (max_four _ _ _ _ _ _ (by exact c0) (by exact c1) (by exact c2) (by exact c3))).mono ?_; rintro e w' ⟨rfl, rfl⟩)) | fail
    all_goals gi_wp2
    all_goals
      obtain ⟨hK', e0, e1, hE⟩ := reach_end (A := w.heap.size + 1 + 1 + 1) (.int .i64 (min (op a c) (min (op a d) (min (op b c) (op b d))))) (.int .i64 (max (op a c) (max (op a d) (max (op b c) (op b d))))) (by omega) (show w.heap.size ≤ D by omega) ⟨_, k2⟩ ⟨_, k3⟩ hB hK
      refine ⟨by simp, .inl ⟨_, _, rfl, run_takeDeferred hK', ?_⟩⟩
      refine ⟨.agg #[.int .i64 (min (op a c) (min (op a d) (min (op b c) (op b d)))), .int .i64 (max (op a c) (max (op a d) (max (op b c) (op b d))))], ?_, by rw [show min (min (min (op a c) (op a d)) (op b c)) (op b d) = min (op a c) (min (op a d) (min (op b c) (op b d))) by omega, show max (max (max (op a c) (op a d)) (op b c)) (op b d) = max (op a c) (max (op a d) (max (op b c) (op b d))) by omega], hE⟩
      simp [results, Try.f88, go_sem, e0, e1]
  case stop =>
    rintro D c pre W _ _ h _
    exact h.elim
end Go.Proofs.Ytmcajdfbkhaplaa
