/- Layer 2: the order of the reals. -/
/- What a law's row asks behind the call, out of 'Ext'. -/
/- Tables that a row lists: what the condition gives a walk. -/
/- Layer 2: reals that lie in blocks of a call; Sub. -/
/- Layer 2: what the walks of the laws of indices share. -/
/- Layer 2: integer parts of reals (no program here). -/
/- Layer 2: sums of reals that are multiples of 2^-60 (no program here). -/
/- Layer 2: square roots (no program here). -/
/- Regions in which one of two operations may come up (no program here). -/
import Derived.Test.YthmndafjogndaaaGreatDoorGq
import Derived.Test.YthmndafjogndaaaGreatDoorGa
import Derived.OpenShut
import Derived.Carry
import Derived.SizedLaws
import Derived.ChangeSlices
import Derived.Test.YthmndafjogndaaaGreatDoorProg
import Derived.Test.YthmndafjogndaaaGreatDoorRows
import Derived.Lib.LaidTab
import Derived.Lib.ItoaMem
import Derived.Stop.LaidErr
import Derived.LaidMore
import Derived.Stop.Joined
import Derived.Test.YthmndafjogndaaaGreatDoorGm
namespace Go.Proofs.YthmndafjogndaaaGreatDoor
open Go.RowKit

theorem Index_at {a : Int} (a1 : -2533359615 ≤ a) (a2 : a ≤ 2533359615) (w : World) : Calls Tryz.prog 17 #[.agg #[.int .i64 (atV a).1, .int .i64 (atV a).2]] w fun e w' => e = .returned (.tuple #[.int .i64 a, .int .i64 0]) ∧ Ext w w' := by
  have h := Index_good (atV a).1 (atV a).2 w (valid_at a1 a2)
  rwa [place_at a1 a2] at h
theorem Cmp_at {a b : Int} (a1 : -2533359615 ≤ a) (a2 : a ≤ 2533359615) (b1 : -2533359615 ≤ b) (b2 : b ≤ 2533359615) (c : Int) (hc : cmpI a b = c) (w : World) : Calls Tryz.prog 22 #[.agg #[.int .i64 (atV a).1, .int .i64 (atV a).2], .agg #[.int .i64 (atV b).1, .int .i64 (atV b).2]] w fun e w' => e = .returned (.tuple #[.int .i64 c, .int .i64 0]) ∧ Ext w w' := by
  have hv : (validV (atV a).1 (atV a).2 && validV (atV b).1 (atV b).2) = true := by rw [valid_at a1 a2, valid_at b1 b2]; rfl
  by_cases h : ((atV a).1 == (atV b).1 && (atV a).2 == (atV b).2) = true
  · have k := Cmp_same _ _ _ _ hv h w
    have e : a = b := by
      rw [Bool.and_eq_true] at h
      rw [← place_at a1 a2, ← place_at b1 b2, eq_of_beq h.1, eq_of_beq h.2]
    have : c = 0 := by rw [← hc, e]; unfold cmpI; rw [if_neg (by omega), if_neg (by omega)]
    rwa [this]
  · have k := Cmp_diff _ _ _ _ hv (by simpa using h) w
    rwa [place_at a1 a2, place_at b1 b2, hc] at k
theorem Valid_at {a : Int} (a1 : -2533359615 ≤ a) (a2 : a ≤ 2533359615) (w : World) : Calls Tryz.prog 15 #[.agg #[.int .i64 (atV a).1, .int .i64 (atV a).2]] w fun e w' => e = .returned (.bool true) ∧ Ext w w' := by
  have h := valid_any (atV a).1 (atV a).2 w
  rwa [valid_at a1 a2] at h
theorem Next_at_top (w : World) : Calls Tryz.prog 18 #[.agg #[.int .i64 (atV 2533359615).1, .int .i64 (atV 2533359615).2]] w fun e w' => e = .returned (.tuple #[.agg #[.int .i64 0, .int .i64 0], .int .i64 3]) ∧ Ext w w' :=
  Next_top _ _ 2533359615 (place_at (by omega) (by omega)) (by decide) w (valid_at (by omega) (by omega))
theorem Next_at {a : Int} (a1 : -2533359615 ≤ a) (a2 : a ≤ 2533359615) (h : a ≠ 2533359615) (w : World) : Calls Tryz.prog 18 #[.agg #[.int .i64 (atV a).1, .int .i64 (atV a).2]] w fun e w' => e = .returned (.tuple #[.agg #[.int .i64 (atV (a + 1)).1, .int .i64 (atV (a + 1)).2], .int .i64 0]) ∧ Ext w w' :=
  Next_good _ _ a (place_at a1 a2) (by simpa using h) (by omega) (by omega) w (valid_at a1 a2)
end Go.Proofs.YthmndafjogndaaaGreatDoor

namespace Go.Proofs.YthmndafjogndaaaGreatDoor
open Go.ChangeShapes Go.WideShapes Go.ChangeAt Go.RowKit

section
variable {H : Type} {enc : TypeId × Value → H} {P : Program}

theorem trodAll_kept (hl : laidOutB P = true) {W W' : World} (hb : Below W.heap.size W W') : ∀ {ts : List TypeId} {vs : List Value} {ds : List (DataW H)} {ps : List MemPlace},
    (∀ t, t ∈ ts → P.readableRec t = true ∧ t < P.types.size) → DataW.TrodAll enc P W 0 (fun _ => true) true ts vs ds ps → (∀ x, x ∈ ps → x.block < W.heap.size) →
    DataW.TrodAll enc P W' 0 (fun b => decide (b < W.heap.size)) true ts vs ds ps
  | [], vs, ds, ps, _, h, _ => by
    obtain ⟨rfl, rfl, rfl⟩ := trodAll_nil h
    exact trodAll_mk0
  | t :: ts, vs, ds, ps, ht, h, hlt => by
    obtain ⟨v, vs', d, ds', p, q, rfl, rfl, rfl, h0, h1⟩ := trodAll_cons h
    exact trodAll_cons_mk (Below.trod hl (ht t List.mem_cons_self).1 (ht t List.mem_cons_self).2 h0 hb (fun x hx => hlt x (List.mem_append.2 (Or.inl hx))))
      (trodAll_kept hl hb (fun u hu => ht u (List.mem_cons_of_mem _ hu)) h1 (fun x hx => hlt x (List.mem_append.2 (Or.inr hx))))

theorem law_post {f : Func} {s : ChangeSpec} {T : TypeId} (hl : laidOutB P = true) (hT : f.resultTypes = #[T]) (hB : P.underlying T = some .bool) (hv : s.vars = [])
    (hp : ∀ t, t ∈ f.params.toList → P.readableRec t = true ∧ t < P.types.size) {W W' : World} {args : Array Value} {ds gs : List (DataW H)} {before : List MemPlace}
    (hW : DataW.Whole enc P f.params.toList s.vars false W args.toList ds gs before) (hE : Ext W W')
    (hr : (s.fn H (ds ++ gs)).results = [.lit (.bool true)]) (ha : (s.fn H (ds ++ gs)).args = ds) (hvv : (s.fn H (ds ++ gs)).vars = []) :
    s.post enc P f false true false false W args (.bool true) W' := by
  have hlt : ∀ x, x ∈ before → x.block < W.heap.size := fun x hx => by simpa using hW.lt x hx
  have hW0 := hW
  obtain ⟨p, q, hA, hV, rfl, _, _⟩ := hW0
  refine ⟨ds, gs, p ++ q, [], p, [], hW, ?_, ?_, ?_, hE.bel.frame _, fun h => by cases h⟩
  · rw [hr, hT]; exact trodAll_cons_mk (shut_bool hB _) trodAll_mk0
  · rw [ha]; exact trodAll_kept hl hE.bel hp hA (fun x hx => hlt x (List.mem_append.2 (Or.inl hx)))
  · rw [hvv, hv]; rfl
end

/-- A slice that reads as the integers 'l'. -/
def IsInts (w : World) (v : Value) (l : List Int) : Prop :=
  (∃ a cap, v = .slice a 0 cap ∧ l = []) ∨ ∃ b off cap, v = .slice (some ⟨b, off, none⟩) l.length cap ∧ b < w.heap.size ∧ l.length * 8 ≤ 140737488351232 ∧
    (∀ j, j < l.length → w.cell? ⟨b, off + j, none⟩ = some (.int .i64 (l.getD j 0))) ∧ ∀ n, n ∈ l → (Lit.int .i64 n).wf = true

theorem open_intsArg {H : Type} {enc : TypeId × Value → H} {P : Program} {t e : TypeId} {W : World} {v : Value} {d : DataW H} {p : List MemPlace} {base : Nat} {ts : List TypeId} {ds : List (DataW H)} {j : Nat}
    (ht : P.underlying t = some (.slice e)) (he : P.underlying e = some (.int .i64)) (hc : P.cellsOf e = 1) (hby : P.bytesOf e = 8) (hv : Value.okWide P W .any base t v)
    (h : DataW.Trod enc P W 0 (fun _ => true) true t v d p) (hlt : ∀ x, x ∈ p → x.block < W.heap.size)
    (hsz : (DataW.weightsEach P ts ds).all (· ≤ reachBytes) = true) (hts : ts[j]? = some t) (hds : ds[j]? = some d) : ∃ l, IsInts W v l := by
  obtain ⟨a0, len, cap, rfl⟩ := okWide_slice ht hv
  obtain ⟨fuel, hf⟩ := h
  rcases open_ints ht he hc hf with ⟨hcs, hx⟩ | ⟨a, len', cap', zs, hcs, _, hl, hm, hz, hx, hcell, hwz⟩
  · simp [Value.cells] at hcs
    obtain ⟨rfl, rfl, rfl⟩ := hcs
    exact ⟨[], Or.inl ⟨_, _, rfl, rfl⟩⟩
  · simp [Value.cells] at hcs
    obtain ⟨rfl, rfl, rfl⟩ := hcs
    simp only [Prod.mk.injEq] at hx
    obtain ⟨rfl, rfl⟩ := hx
    simp only [if_true] at hz
    by_cases hl0 : len = 0
    · subst hl0; exact ⟨[], Or.inl ⟨_, _, rfl, rfl⟩⟩
    · obtain ⟨b, off, spot⟩ := a
      have hspot : spot = none := by simpa [Addr.add] using World.cell?_spot (hcell 0 (by omega))
      subst hspot
      have hlen : (zs.take len).length = len := by rw [List.length_take]; omega
      have hreach := sized_slice hsz hts hds ht
      rw [hby] at hreach
      simp only [lits, List.length_map, List.length_take, List.length_drop, reachBytes] at hreach
      refine ⟨zs.take len, Or.inr ⟨b, off, cap, by rw [hlen], hlt (.cell b off) (MemPlace.mem_row.2 ⟨0, by omega, by simp⟩), by rw [hlen]; omega, fun i hi => ?_, fun n hn => hwz n (List.mem_of_mem_take hn)⟩⟩
      rw [hlen] at hi
      rw [← add_plain, hcell i (by omega)]
      simp [List.getD, hi]
end Go.Proofs.YthmndafjogndaaaGreatDoor

namespace Go.Proofs.YthmndafjogndaaaGreatDoor
open Go.Lib

theorem tabIs_of_mem {P : Program} {W : World} {name : String} {k : IntKind} {zs : List Int} {g : Nat} {t e : TypeId} {n : Nat}
    (hg : P.globalNamed name = some g) (hty : (P.globals[g]?).map (·.type) = some t) (ht : P.underlying t = some (.array n e)) (he : P.underlying e = some (.int k)) (hce : P.cellsOf e = 1) (hct : P.cellsOf t = n) :
    ∀ {l : List (String × DataW Unit)}, laidMet P l W → (name, tabData k zs) ∈ l → TabIs P W name k zs
  | [], _, hm => by cases hm
  | x :: r, h, hm => by
    rcases List.mem_cons.1 hm with e | hm
    · subst e; exact tabIs_of_head hg hty ht he hce hct h
    · exact tabIs_of_mem hg hty ht he hce hct h.tail hm
end Go.Proofs.YthmndafjogndaaaGreatDoor

namespace Go.Proofs.YthmndafjogndaaaGreatDoor
open Go.RowKit

/-- Since w nothing old has changed, and the blocks of L, which are new, hold these reals. -/
structure Fr (w u : World) (L : List (Nat × Int × Int)) : Prop where
  x : Ext w u
  nd : (L.map (·.1)).Nodup
  c : ∀ e ∈ L, w.heap.size ≤ e.1 ∧ e.1 < u.heap.size ∧ u.cell? ⟨e.1, 0, none⟩ = some (.int .i64 e.2.1) ∧ u.cell? ⟨e.1, 1, none⟩ = some (.int .i64 e.2.2) ∧ ∀ j, u.frozen? ⟨e.1, j, none⟩ = false
theorem Fr.nil (w : World) : Fr w w [] := ⟨Ext.refl w, List.nodup_nil, fun e he => by cases he⟩
theorem Fr.later {w u v : World} {L : List (Nat × Int × Int)} (h : Fr w u L) (hx : Ext u v) : Fr w v L :=
  ⟨h.x.trans hx, h.nd, fun e he => by
    obtain ⟨a, b, c0, c1, f⟩ := h.c e he
    exact ⟨a, Nat.lt_of_lt_of_le b hx.size, (hx.cell 0 b).trans c0, (hx.cell 1 b).trans c1, fun j => (hx.froz j b).trans (f j)⟩⟩
theorem Fr.lay {w u : World} {L : List (Nat × Int × Int)} (h : Fr w u L) (m x : Int) (T : TypeId) : Fr w (u.alloc (.cells #[.int .i64 m, .int .i64 x] T)) ((u.heap.size, m, x) :: L) := by
  have k := h.later ((Ext.refl u).alloc (.cells #[.int .i64 m, .int .i64 x] T))
  refine ⟨k.x, List.nodup_cons.2 ⟨?_, h.nd⟩, ?_⟩
  · intro hm
    obtain ⟨e, he, e1⟩ := List.mem_map.1 hm
    have := (h.c e he).2.1
    simp only at e1
    omega
  · intro e he
    rcases List.mem_cons.1 he with rfl | he
    · exact ⟨h.x.size, by simp, by simp [go_sem], by simp [go_sem], fun j => by simp [go_sem]⟩
    · exact k.c e he
/-- What a call returns from every world, with nothing old changed. -/
def Ret (f : FuncId) (args : Array Value) (v : Value) : Prop := ∀ w : World, Calls Tryz.prog f args w fun e w' => e = .returned v ∧ Ext w w'
theorem two_cells {W : World} {S : Nat} {x y x0 y0 : Value} (h0 : W.cell? ⟨S, 0, none⟩ = some x0) (h1 : W.cell? ⟨S, 1, none⟩ = some y0) :
    ((W.setCell ⟨S, 0, none⟩ x).setCell ⟨S, 1, none⟩ y).cell? ⟨S, 0, none⟩ = some x ∧ ((W.setCell ⟨S, 0, none⟩ x).setCell ⟨S, 1, none⟩ y).cell? ⟨S, 1, none⟩ = some y := by
  have c0 : (W.setCell ⟨S, 0, none⟩ x).cell? ⟨S, 0, none⟩ = some x := World.cell?_setCell_same' _ _ _ (by rw [h0]; rfl)
  have c1 : (W.setCell ⟨S, 0, none⟩ x).cell? ⟨S, 1, none⟩ = some y0 := by rw [World.cell?_setCell_other _ _ _ _ (by simp)]; exact h1
  exact ⟨by rw [World.cell?_setCell_other _ _ _ _ (by simp)]; exact c0, World.cell?_setCell_same' _ _ _ (by rw [c1]; rfl)⟩
/-- One of the blocks is written anew. -/
theorem Fr.set {w u : World} {L : List (Nat × Int × Int)} (h : Fr w u L) (i : Nat) {b : Nat} {m0 x0 : Int} (hi : L[i]? = some (b, m0, x0)) (m x : Int) :
    Fr w ((u.setCell ⟨b, 0, none⟩ (.int .i64 m)).setCell ⟨b, 1, none⟩ (.int .i64 x)) (L.set i (b, m, x)) := by
  obtain ⟨a0, b0, c0, c1, f0⟩ := h.c _ (List.mem_of_getElem? hi)
  simp only at a0 b0 c0 c1 f0
  have hm : (L.set i (b, m, x)).map (·.1) = L.map (·.1) := by
    rw [List.map_set]
    apply List.ext_getElem?
    intro k
    by_cases e : i = k
    · subst e
      rw [List.getElem?_set_self' , List.getElem?_map, hi]; rfl
    · rw [List.getElem?_set_ne e]
  refine ⟨(h.x.setCell a0 _).setCell a0 _, by rw [hm]; exact h.nd, ?_⟩
  intro e he
  obtain ⟨k, hk⟩ := List.mem_iff_getElem?.1 he
  by_cases q : i = k
  · subst q
    rw [List.getElem?_set_self' , hi] at hk
    obtain rfl : (b, m, x) = e := by simpa using hk
    obtain ⟨q0, q1⟩ := two_cells (x := .int .i64 m) (y := .int .i64 x) c0 c1
    exact ⟨a0, by simpa using b0, q0, q1, fun j => by simpa using f0 j⟩
  · rw [List.getElem?_set_ne q] at hk
    obtain ⟨a1, b1, d0, d1, f1⟩ := h.c e (List.mem_of_getElem? hk)
    have ne : e.1 ≠ b := fun eb => q (by
      have n1 : (L.map (·.1))[i]? = (L.map (·.1))[k]? := by rw [List.getElem?_map, List.getElem?_map, hi, hk]; simp [eb]
      exact (List.getElem?_inj (by rw [List.length_map]; exact (List.getElem?_eq_some_iff.1 hi).1) h.nd).1 n1)
    refine ⟨a1, by simpa using b1, ?_, ?_, fun j => by simpa using f1 j⟩
    · rw [World.cell?_setCell_other _ _ _ _ (by simp []), World.cell?_setCell_other _ _ _ _ (by simp [])]; exact d0
    · rw [World.cell?_setCell_other _ _ _ _ (by simp []), World.cell?_setCell_other _ _ _ _ (by simp [])]; exact d1
theorem Fr.lay2 {w u : World} {L : List (Nat × Int × Int)} (h : Fr w u L) (m x m' x' : Int) (T : TypeId) :
    Fr w ((u.alloc (.cells #[.int .i64 m, .int .i64 x] T)).alloc (.cells #[.int .i64 m', .int .i64 x'] T)) ((u.heap.size + 1, m', x') :: (u.heap.size, m, x) :: L) := by
  have k := (h.lay m x T).lay m' x' T
  rwa [show (u.alloc (.cells #[.int .i64 m, .int .i64 x] T)).heap.size = u.heap.size + 1 by simp] at k
theorem Fr.ne {w u : World} {L : List (Nat × Int × Int)} (h : Fr w u L) (i j : Nat) {b c : Nat} {m x n y : Int} (hi : L[i]? = some (b, m, x)) (hj : L[j]? = some (c, n, y)) (hij : i ≠ j) : b ≠ c := fun e => by
  subst e
  exact hij ((List.getElem?_inj (by rw [List.length_map]; exact (List.getElem?_eq_some_iff.1 hi).1) h.nd).1 (by rw [List.getElem?_map, List.getElem?_map, hi, hj]; rfl))
theorem Fr.c0 {w u : World} {L : List (Nat × Int × Int)} (h : Fr w u L) {b : Nat} {m x : Int} (he : (b, m, x) ∈ L) : u.cell? ⟨b, 0, none⟩ = some (.int .i64 m) := (h.c _ he).2.2.1
theorem Fr.c1 {w u : World} {L : List (Nat × Int × Int)} (h : Fr w u L) {b : Nat} {m x : Int} (he : (b, m, x) ∈ L) : u.cell? ⟨b, 1, none⟩ = some (.int .i64 x) := (h.c _ he).2.2.2.1
theorem Fr.fz {w u : World} {L : List (Nat × Int × Int)} (h : Fr w u L) {b : Nat} {m x : Int} (he : (b, m, x) ∈ L) (j : Nat) : u.frozen? ⟨b, j, none⟩ = false := (h.c _ he).2.2.2.2 j
theorem Fr.lt {w u : World} {L : List (Nat × Int × Int)} (h : Fr w u L) {b : Nat} {m x : Int} (he : (b, m, x) ∈ L) : b < u.heap.size := (h.c _ he).2.1
theorem Fr.g0 {w u : World} {L : List (Nat × Int × Int)} (h : Fr w u L) {b : Nat} {m x : Int} (he : (b, m, x) ∈ L) (ob : Obj) : (u.alloc ob).cell? ⟨b, 0, none⟩ = some (.int .i64 m) := (h.later ((Ext.refl u).alloc ob)).c0 he
theorem Fr.g1 {w u : World} {L : List (Nat × Int × Int)} (h : Fr w u L) {b : Nat} {m x : Int} (he : (b, m, x) ∈ L) (ob : Obj) : (u.alloc ob).cell? ⟨b, 1, none⟩ = some (.int .i64 x) := (h.later ((Ext.refl u).alloc ob)).c1 he

/-! ### Sub -/
/-- The blocks of Sub's closure. -/
structure SubT (w : World) (m x n y : Int) (u : World) : Prop where
  e : Ext w u
  sz : w.heap.size + 1 + 1 < u.heap.size
  p0 : u.cell? ⟨w.heap.size, 0, none⟩ = some (.int .i64 m)
  p1 : u.cell? ⟨w.heap.size, 1, none⟩ = some (.int .i64 x)
  q0 : u.cell? ⟨w.heap.size + 1, 0, none⟩ = some (.int .i64 n)
  q1 : u.cell? ⟨w.heap.size + 1, 1, none⟩ = some (.int .i64 y)
  c0 : u.cell? ⟨w.heap.size + 1 + 1, 0, none⟩ = some (.bool false)
  c1 : u.cell? ⟨w.heap.size + 1 + 1, 1, none⟩ = some (.int .u64 0)
  c2 : u.cell? ⟨w.heap.size + 1 + 1, 2, none⟩ = some (.int .i64 0)
  c3 : u.cell? ⟨w.heap.size + 1 + 1, 3, none⟩ = some (.bool false)
  f0 : ∀ j, u.frozen? ⟨w.heap.size + 1 + 1, j, none⟩ = false
theorem SubT.later {w u v : World} {m x n y : Int} (h : SubT w m x n y u) (hx : Ext u v) : SubT w m x n y v := by
  have sz := h.sz
  exact ⟨h.e.trans hx, Nat.lt_of_lt_of_le h.sz hx.size, (hx.cell 0 (by omega)).trans h.p0, (hx.cell 1 (by omega)).trans h.p1, (hx.cell 0 (by omega)).trans h.q0, (hx.cell 1 (by omega)).trans h.q1,
    (hx.cell 0 (by omega)).trans h.c0, (hx.cell 1 (by omega)).trans h.c1, (hx.cell 2 (by omega)).trans h.c2, (hx.cell 3 (by omega)).trans h.c3, fun j => (hx.froz j (by omega)).trans (h.f0 j)⟩
set_option maxRecDepth 100000 in
set_option maxHeartbeats 2000000 in
theorem sub1_any (m x n y : Int) (b1 : -150 ≤ x) (b2 : x ≤ 150) (b3 : -150 ≤ y) (b4 : y ≤ 150) (c1 : -16777216 < m) (c2 : m < 16777216) (c3 : -16777216 < n) (c4 : n < 16777216) (w : World) :
    Calls Tryz.prog 64 #[.agg #[.int .i64 m, .int .i64 x], .agg #[.int .i64 n, .int .i64 y]] w fun e w' => e = .returned (.agg #[.bool (sumV m x (-n) y).neg, .int .u64 (sumV m x (-n) y).man, .int .i64 (sumV m x (-n) y).exp, .bool (sumV m x (-n) y).more]) ∧ Ext w w' := by
  have A := Lib.hid (opposite_any n y (by omega) (by omega))
  have B := Lib.hid (sum_any m x (-n) y b1 b2 b3 b4 c1 c2 (by omega) (by omega))
  generalize sumV m x (-n) y = r at *
  obtain ⟨neg, man, ex, more⟩ := r
  simp only at *
  clear b1 b2 b3 b4 c1 c2 c3 c4
  go_enter Tryz.func64, Tryz.ntmps64
  go_upto_region 1 with (fail)
  refine wp_region_S (SubT w m x n y) 4 (by kernel_rfl) ?_
  have HS : SubT w m x n y (World.drew (((w.alloc (.cells #[.int .i64 m, .int .i64 x] 23)).alloc (.cells #[.int .i64 n, .int .i64 y] 23)).alloc (.cells #[.bool false, .int .u64 0, .int .i64 0, .bool false] 66))) :=
    ⟨by repeat (first | with_reducible exact Ext.refl _ | with_reducible refine Ext.drew ?_ | with_reducible refine Ext.alloc ?_ _), by simp, by simp [go_sem], by simp [go_sem], by simp [go_sem], by simp [go_sem], by simp [go_sem], by simp [go_sem], by simp [go_sem], by simp [go_sem], fun j => by simp [go_sem]⟩
  refine GoS.take (i := 0) (v := ?_) rfl (by kernel_rfl) (by kernel_rfl) (by kernel_rfl) (by kernel_rfl) (fun _ _ _ h => h) (Or.inl ⟨by rfl, ?hy1⟩) HS ?_
  case hy1 => ((intro u' hT; have d0 := hT.p0; have d1 := hT.p1; go_simp); try with_reducible rfl)
  try simp only [List.getElem_toArray, List.getElem_cons_zero, Act.put, List.setIfInBounds_toArray, List.set_cons_zero, List.set_cons_succ]
  refine GoS.take (i := 1) (v := ?_) rfl (by kernel_rfl) (by kernel_rfl) (by kernel_rfl) (by kernel_rfl) (fun _ _ _ h => h) (Or.inl ⟨by rfl, ?hy2⟩) HS ?_
  case hy2 => ((intro u' hT; have d0 := hT.q0; have d1 := hT.q1; go_simp); try with_reducible rfl)
  try simp only [List.getElem_toArray, List.getElem_cons_succ, List.getElem_cons_zero, Act.put, List.setIfInBounds_toArray, List.set_cons_zero, List.set_cons_succ]
  refine GoS.one (i := 2) (by kernel_rfl) rfl (fun K hK => ?_)
  go_simp
  (with_reducible refine (A.out _).mono ?_)
  rintro e q1 ⟨rfl, hx1⟩
  have HS2 := HS.later hx1
  clear HS; have HS := HS2; clear HS2 hx1
  go_wp2_with fail
  refine hK.out _ _ HS (fun _ => ?_)
  clear hK K
  try simp only [List.getElem_toArray, List.getElem_cons_succ, List.getElem_cons_zero, Act.put, List.setIfInBounds_toArray, List.set_cons_zero, List.set_cons_succ]
  refine GoS.one (i := 3) (by kernel_rfl) rfl (fun K hK => ?_)
  go_simp
  (with_reducible refine (B.out _).mono ?_)
  rintro e q2 ⟨rfl, hx2⟩
  have HS2 := HS.later hx2
  clear HS; have HS := HS2; clear HS2 hx2
  go_wp2_with fail
  refine hK.out _ _ HS (fun _ => ?_)
  clear hK K
  try simp only [List.getElem_toArray, List.getElem_cons_succ, List.getElem_cons_zero, Act.put, List.setIfInBounds_toArray, List.set_cons_zero, List.set_cons_succ]
  refine GoS.store (i := 4) (by kernel_rfl) rfl (by kernel_rfl) (fun K hK => ?_)
  have c0 := HS.c0
  have c1 := HS.c1
  have c2 := HS.c2
  have c3 := HS.c3
  have f0 := HS.f0
  go_simp
  refine hK.out _ _ ?_
  clear hK K
  try simp only [List.getElem_toArray, List.getElem_cons_succ, List.getElem_cons_zero, Act.put, List.setIfInBounds_toArray, List.set_cons_zero, List.set_cons_succ]
  refine GoS.done (by kernel_rfl) ?_
  go_wp2
  refine bodyPost_ret (v := .agg #[.bool neg, .int .u64 man, .int .i64 ex, .bool more]) ?_ rfl ⟨rfl, ?_⟩
  · simp [results, Tryz.results64, go_sem, c0, c1, c2, c3]
  · repeat (first | with_reducible exact HS.e | with_reducible refine Ext.setCell ?_ (by simp; try omega) _)

theorem sub_ent (args : Array Value) (w : World) : (callFunc 64 args).run Tryz.prog w = .ok (.enter 64 args) w :=
  ent_any Tryz.func64 (by kernel_rfl) rfl args w
theorem sub_comb (m x n y : Int) (w : World) :
    Calls Tryz.prog 62 #[.agg #[.int .i64 m, .int .i64 x], .agg #[.int .i64 n, .int .i64 y], .func (.func 64) #[] #[]] w fun e w' => e = .returned (.tuple #[.agg #[.int .i64 (subV m x n y).1.1, .int .i64 (subV m x n y).1.2], .int .i64 (subV m x n y).2]) ∧ Ext w w' :=
  combined_any 64 (sumV m x (-n) y) m x n y w sub_ent fun h => by
    obtain ⟨⟨b1, b2, b3, b4⟩, c1, c2, c3, c4⟩ := both_bd h
    exact ⟨sum_ok m x (-n) y b1 b2 b3 b4 c1 c2 (by omega) (by omega), fun w => sub1_any m x n y b1 b2 b3 b4 c1 c2 c3 c4 w⟩
set_option maxHeartbeats 1000000 in
theorem sub_real (m x n y : Int) (w : World) :
    Calls Tryz.prog 29 #[.agg #[.int .i64 m, .int .i64 x], .agg #[.int .i64 n, .int .i64 y]] w fun e w' => e = .returned (.tuple #[.agg #[.int .i64 (subV m x n y).1.1, .int .i64 (subV m x n y).1.2], .int .i64 (subV m x n y).2]) ∧ Ext w w' := by
  have A := Lib.hid (sub_comb m x n y)
  generalize subV m x n y = r at *
  obtain ⟨⟨rm, rx⟩, re⟩ := r
  simp only at *
  have hmf : ∀ (fn : Fn) (first cap : Array Value) (w : World), (Instr.makeFunc fn first cap).run Tryz.prog w = .ok (.func fn first cap) w := fun _ _ _ _ => rfl
  go_enter Tryz.func29, Tryz.ntmps29
  go_wp2_with fail
  refine (A.out _).mono ?_
  rintro e w1 ⟨rfl, hx⟩
  have X := Lib.hid ((((Ext.refl w).alloc _).alloc _).alloc _ |>.trans hx)
  have sz : w.heap.size + 1 + 1 + 1 ≤ w1.heap.size := by simpa using hx.size
  have c0 : w1.cell? ⟨w.heap.size + 1 + 1, 0, none⟩ = some (.int .i64 0) := (hx.cell 0 (by simp)).trans (by simp [go_sem])
  have c1 : w1.cell? ⟨w.heap.size + 1 + 1, 1, none⟩ = some (.int .i64 0) := (hx.cell 1 (by simp)).trans (by simp [go_sem])
  have f0 : ∀ j, w1.frozen? ⟨w.heap.size + 1 + 1, j, none⟩ = false := fun j => (hx.froz j (by simp)).trans (by simp [go_sem])
  clear hx
  go_wp2
  refine bodyPost_ret (v := .tuple #[.agg #[.int .i64 rm, .int .i64 rx], .int .i64 re]) ?_ rfl ⟨rfl, ?_⟩
  · simp [results, Tryz.results29, go_sem, c0, c1]
  · exact (X.out.setCell (by simp; omega) _).setCell (by simp; omega) _

/-! ### Operations on valid reals, by the plain functions -/
theorem Add_vd (m x n y : Int) (w : World) : Calls Tryz.prog 28 #[.agg #[.int .i64 m, .int .i64 x], .agg #[.int .i64 n, .int .i64 y]] w fun e w' => e = .returned (.tuple #[.agg #[.int .i64 (addV m x n y).1.1, .int .i64 (addV m x n y).1.2], .int .i64 (addV m x n y).2]) ∧ Ext w w' := add_real m x n y w
theorem Mul_vd (m x n y : Int) (w : World) : Calls Tryz.prog 33 #[.agg #[.int .i64 m, .int .i64 x], .agg #[.int .i64 n, .int .i64 y]] w fun e w' => e = .returned (.tuple #[.agg #[.int .i64 (mulV m x n y).1.1, .int .i64 (mulV m x n y).1.2], .int .i64 (mulV m x n y).2]) ∧ Ext w w' := mul_real m x n y w
theorem Cmp_vd {m x n y : Int} (h : Vd m x) (k : Vd n y) (w : World) : Calls Tryz.prog 22 #[.agg #[.int .i64 m, .int .i64 x], .agg #[.int .i64 n, .int .i64 y]] w fun e w' => e = .returned (.tuple #[.int .i64 (cmpV m x n y), .int .i64 0]) ∧ Ext w w' := by
  have hv : (validV m x && validV n y) = true := by rw [vd_iff.2 h, vd_iff.2 k]; rfl
  unfold cmpV
  by_cases e : m = n ∧ x = y
  · rw [if_pos e]; exact Cmp_same m x n y hv (by simp [e]) w
  · rw [if_neg e]; exact Cmp_diff m x n y hv (by simpa using e) w
theorem Neg_vd {m x : Int} (h : Vd m x) (w : World) : Calls Tryz.prog 19 #[.agg #[.int .i64 m, .int .i64 x]] w fun e w' => e = .returned (.tuple #[.agg #[.int .i64 (-m), .int .i64 x], .int .i64 0]) ∧ Ext w w' := Neg_good m x w (vd_iff.2 h)
end Go.Proofs.YthmndafjogndaaaGreatDoor

namespace Go.Proofs.YthmndafjogndaaaGreatDoor
open Go.RowKit
theorem Ret.call {f : FuncId} {args : Array Value} {v : Value} (h : Ret f args v) (w : World) : Calls Tryz.prog f args w fun e w' => e = .returned v ∧ Ext w w' := h w
theorem bdI {i : Int} (h : (Lit.int .i64 i).wf = true) : -9223372036854775808 ≤ i ∧ i ≤ 9223372036854775807 := by
  simp only [Lit.wf, Bool.and_eq_true, decide_eq_true_eq] at h
  have e : IntKind.i64.min = -9223372036854775808 := by decide
  have e2 : IntKind.i64.max = 9223372036854775807 := by decide
  omega
theorem tmod_bd (i : Int) : -2533359615 ≤ i.tmod 2533359616 ∧ i.tmod 2533359616 ≤ 2533359615 := by
  rcases Int.lt_or_le i 0 with h | h
  · have := Int.tmod_lt_of_pos (-i) (b := 2533359616) (by omega)
    have h2 := Int.tmod_nonneg (a := -i) 2533359616 (by omega)
    rw [Int.neg_tmod] at this h2
    omega
  · have := Int.tmod_lt_of_pos i (b := 2533359616) (by omega)
    have h2 := Int.tmod_nonneg (a := i) 2533359616 h
    omega
/-- The real with an index. -/
theorem at_vd {i : Int} (h : (Lit.int .i64 i).wf = true) : ∃ m x, Vd m x ∧ Ret 49 #[.int .i64 i] (.agg #[.int .i64 m, .int .i64 x]) := by
  obtain ⟨h1, h2⟩ := bdI h
  obtain ⟨b1, b2⟩ := tmod_bd i
  exact ⟨(atV (i.tmod 2533359616)).1, (atV (i.tmod 2533359616)).2, vd_iff.1 (valid_at b1 b2), fun w => at_law i h1 h2 _ rfl b1 b2 w⟩
end Go.Proofs.YthmndafjogndaaaGreatDoor

namespace Go.Proofs.YthmndafjogndaaaGreatDoor

/-- An integer, if it is one of programs; else an error. -/
def wholeU (a : Int) : Int × Int := if a < -2147483647 ∨ 2147483647 < a then (0, 3) else (a, 0)
def H149 : Int := 713623846352979940529142984724747568191373312
def H150 : Int := 1427247692705959881058285969449495136382746624
theorem h149 : (2 : Int) ^ 149 = H149 := by decide +kernel
theorem h150 : (2 : Int) ^ 150 = H150 := by decide +kernel
theorem halves_sc {m x : Int} (h : Vd m x) : halvesV m x = sc m x / H149 := by
  have b := h.2.1
  have hp : H149 ≠ 0 := by decide
  unfold halvesV sc
  by_cases c : x < -1
  · rw [if_pos c]
    have e : H149 = 2 ^ (-1 - x).toNat * 2 ^ (x + 150).toNat := by
      rw [← h149, ← Int.pow_add]; exact congrArg (fun k => (2 : Int) ^ k) (by omega)
    rw [e, Int.mul_ediv_mul_of_pos_left _ _ (ipow_pos _)]
  · rw [if_neg c]
    have e : m * 2 ^ (x + 150).toNat = m * 2 ^ (x + 1).toNat * H149 := by
      rw [Int.mul_assoc, ← h149, ← Int.pow_add]; exact congrArg (fun k => m * (2 : Int) ^ k) (by omega)
    rw [e, Int.mul_ediv_cancel _ hp]
theorem flo_two (S p : Int) (hp : p = 0 ∨ p = 1) : (S / H149 + p) / 2 = (S + p * H149) / H150 := by
  unfold H149 H150
  rcases hp with rfl | rfl <;> omega
theorem sc_far {m x : Int} (h : Vd m x) (c : 31 < x) : 2147483649 * H150 ≤ (sc m x).natAbs := by
  have hm : m ≠ 0 := fun e => by have := h.2.2.2.1 e; omega
  have h2 : 8388608 ≤ m.natAbs := by rcases h.2.2.2.2 hm with e | e <;> omega
  have h3 : 2 ^ 182 ≤ 2 ^ (x + 150).toNat := Nat.pow_le_pow_right (by omega) (by omega)
  have h4 : 8388608 * 2 ^ 182 ≤ m.natAbs * 2 ^ (x + 150).toNat := Nat.mul_le_mul h2 h3
  rw [sc_abs]
  have h5 : (2147483649 * H150).toNat ≤ 8388608 * 2 ^ 182 := by decide +kernel
  omega
theorem whole_U {m x : Int} (h : Vd m x) (p : Int) (hp : p = 0 ∨ p = 1) : wholeR m x p = wholeU ((sc m x + p * H149) / H150) := by
  unfold wholeR
  rw [vd_iff.2 h]
  simp only [if_true]
  unfold wholeV wholeU
  rw [halves_sc h, flo_two _ _ hp]
  by_cases c : 31 < x
  · have := sc_far h c
    rw [if_pos c, if_pos]
    generalize sc m x = S at *
    unfold H149 H150 at *
    rcases hp with rfl | rfl <;> omega
  · rw [if_neg c]
    generalize (sc m x + p * H149) / H150 = a
    by_cases n1 : a < -2147483647
    · rw [if_pos n1, if_pos (.inl n1)]
    · rw [if_neg n1]
      by_cases n2 : 2147483647 < a
      · rw [if_pos n2, if_pos (.inr n2)]
      · rw [if_neg n2, if_neg (by omega)]

/-- An integer of at most 24 bits (or 2^24) is a real. -/
theorem from_int (n : Int) (h : n.natAbs ≤ 16777216) : ∃ m x, (exV n 0).rd = some (m, x) ∧ Vd m x ∧ sc m x = n * H150 := by
  obtain ⟨r, a, b⟩ := ex_near n 0 (by omega) (by omega)
  have e0 : sc n 0 = n * H150 := by unfold sc; rw [← h150]; rfl
  obtain ⟨s, hs⟩ : ∃ s, ordN s = n.natAbs * 2 ^ 150 := by
    by_cases c : n.natAbs < 16777216
    · exact rep_index n.natAbs 150 c
    · obtain ⟨s, e⟩ := rep_index 8388608 151 (by omega)
      have : n.natAbs = 16777216 := by omega
      exact ⟨s, by rw [e, this]⟩
  have e1 : (sc n 0).natAbs = ordN s := by
    rw [hs, sc_abs]; rfl
  rw [e1] at a
  obtain rfl := near_exact1 a
  have hr : r ≤ 2533359615 := by
    rw [← ord_le_iff, ord_max, hs]
    exact Nat.le_trans (Nat.mul_le_mul_right _ h) (by decide +kernel)
  obtain ⟨m, x, c, d, e, f⟩ := @resI_some (decide (sc n 0 < 0)) r hr
  refine ⟨m, x, by rw [b, c], d, ?_⟩
  rw [resI_val c, ← e1, ← e0]
  generalize sc n 0 = S
  by_cases g : S < 0
  · simp [g]; omega
  · simp [g]; omega

theorem ord_half : ordN 1065353216 = 2 ^ 149 := by
  unfold ordN
  rw [show mantN 1065353216 = 8388608 by decide, show expoN 1065353216 = 126 by decide]
theorem ord_below : ordN 1065353215 = 2 ^ 149 - 2 ^ 125 := by
  unfold ordN
  rw [show mantN 1065353215 = 16777215 by decide, show expoN 1065353215 = 125 by decide]
/-- What is left of a real behind its integer part, compared with a half (rounded as it is). -/
theorem half_dec {m x n y a : Int} (h : Vd m x) (k : Vd n y) (hk : sc n y = a * H150) (ha : sc m x / H150 = a) :
    (subV m x n y).2 = 0 ∧ Vd (subV m x n y).1.1 (subV m x n y).1.2 ∧ ∃ t, cmpV (subV m x n y).1.1 (subV m x n y).1.2 8388608 (-24) = t ∧
      (t = 1 ∧ H149 < sc m x - a * H150 ∨ t = 0 ∧ H149 ≤ sc m x - a * H150 ∨ t = -1 ∧ sc m x - a * H150 < H149) := by
  obtain ⟨r, p, q⟩ := sub_char h k
  rw [hk] at p q
  have hb : 0 ≤ sc m x - a * H150 ∧ sc m x - a * H150 < H150 := by
    rw [← ha]
    generalize sc m x = S
    unfold H150
    omega
  have neg : decide (sc m x - a * H150 < 0) = false := by simp; omega
  rw [neg] at q
  have one : r ≤ 2533359615 := by
    have o : ordN 1073741824 = 2 ^ 150 := by
      unfold ordN
      rw [show mantN 1073741824 = 8388608 by decide, show expoN 1073741824 = 127 by decide]
    have := near_mono (s := 1073741824) (by omega) (show 2 * (sc m x - a * H150).natAbs ≤ 2 * ordN 1073741824 * 1 by
      rw [o]
      have : (2 : Nat) ^ 150 = H150.toNat := by decide +kernel
      unfold H150 at *
      omega) p (near_ord (by omega) _)
    omega
  rw [q]
  have val := @resE_val false r one
  simp only [Bool.false_eq_true, if_false] at val
  refine ⟨resE_ok.2 one, resE_vd _ _, _, cmpV_eq (resE_vd _ _) vd_half, ?_⟩
  rw [val, sc_half, h149]
  have o1 := ord_half
  have o2 := ord_below
  have n1 : H149 = ((2 ^ 149 : Nat) : Int) := by decide +kernel
  have up : H149 ≤ sc m x - a * H150 → 1065353216 ≤ r := fun g =>
    near_mono (by omega) (show 2 * ordN 1065353216 * 1 ≤ 2 * (sc m x - a * H150).natAbs by rw [o1]; omega) (near_ord (by omega) _) p
  have dn : sc m x - a * H150 ≤ H149 → r ≤ 1065353216 := fun g =>
    near_mono (by omega) (show 2 * (sc m x - a * H150).natAbs ≤ 2 * ordN 1065353216 * 1 by rw [o1]; omega) p (near_ord (by omega) _)
  have lt : sc m x - a * H150 < H149 → r ≤ 1065353215 := fun g => by
    have le : sc m x - a * H150 ≤ H149 - ((2 ^ 125 : Nat) : Int) := by
      by_cases c : -25 ≤ x
      · obtain ⟨M, hM⟩ : ∃ M, sc m x = M * ((2 ^ 125 : Nat) : Int) := ⟨m * 2 ^ (x + 25).toNat, by
          unfold sc
          rw [Int.mul_assoc, show ((2 ^ 125 : Nat) : Int) = (2 : Int) ^ 125 by decide +kernel, ← Int.pow_add]
          exact congrArg (fun k => m * (2 : Int) ^ k) (by omega)⟩
        rw [hM] at g hb ⊢
        have n3 : ((2 ^ 125 : Nat) : Int) = 42535295865117307932921825928971026432 := by decide +kernel
        rw [n3] at g hb ⊢
        unfold H149 H150 at *
        omega
      · have l1 := sc_lt_exp h
        have l2 : 2 ^ (x + 150).toNat ≤ 2 ^ 124 := Nat.pow_le_pow_right (by omega) (by omega)
        have l3 : 16777216 * 2 ^ (x + 150).toNat ≤ 16777216 * 2 ^ 124 := Nat.mul_le_mul_left _ l2
        have l4 : 16777216 * 2 ^ 124 = 356811923176489970264571492362373784095686656 := by decide +kernel
        have n3 : ((2 ^ 125 : Nat) : Int) = 42535295865117307932921825928971026432 := by decide +kernel
        rw [n3]
        rw [l4] at l3
        generalize 16777216 * 2 ^ (x + 150).toNat = T at *
        generalize sc m x = S at *
        clear n1 o1 o2 val p q neg
        unfold H149 H150 at *
        omega
    have := near_mono (show 0 < 1 by omega) (show 2 * (sc m x - a * H150).natAbs ≤ 2 * ordN 1065353215 * 1 by
      rw [o2]
      have : (2 : Nat) ^ 125 ≤ 2 ^ 149 := by decide +kernel
      omega) p (near_ord (by omega) _)
    exact this
  have e1 : ordN r < ordN 1065353216 ↔ r < 1065353216 := ord_lt_iff
  have e2 : ordN 1065353216 < ordN r ↔ 1065353216 < r := ord_lt_iff
  rw [o1] at e1 e2
  unfold cmpI
  rw [n1] at up dn lt ⊢
  generalize sc m x - a * H150 = R at *
  generalize 2 ^ 149 = G at *
  rcases Nat.lt_trichotomy r 1065353216 with g | g | g
  · rw [if_pos (by have := e1.2 g; omega)]
    exact .inr (.inr ⟨rfl, by rcases Int.lt_or_le R G with q | q; · exact q
                              · have := up q; omega⟩)
  · have : ordN r = G := by rw [g]; exact o1
    rw [if_neg (by omega), if_neg (by omega)]
    exact .inr (.inl ⟨rfl, by rcases Int.lt_or_le R G with q | q; · have := lt q; omega
                              · exact q⟩)
  · rw [if_neg (by have := e2.2 g; omega), if_pos (by have := e2.2 g; omega)]
    exact .inl ⟨rfl, by rcases Int.lt_or_le G R with q | q; · exact q
                        · have := dn q; omega⟩
end Go.Proofs.YthmndafjogndaaaGreatDoor

namespace Go.Proofs.YthmndafjogndaaaGreatDoor

def P90 : Int := 1237940039285380274899124224
theorem p90 : (2 : Int) ^ 90 = P90 := by decide +kernel
/-- A real times 2^60, if it is an integer of 62 bits. -/
def scaledV (m x : Int) : Int × Bool := if m = 0 then (0, true) else if x < -60 then (0, false) else if -22 < x then (0, false) else (m * 2 ^ (x + 60).toNat, true)
theorem scaled_true {m x a : Int} (h : Vd m x) (e : scaledV m x = (a, true)) : sc m x = a * P90 ∧ a.natAbs ≤ 4611686018427387904 ∧ ((m ≠ 0 → x ≤ -24) → a.natAbs ≤ 1152921504606846976) := by
  unfold scaledV at e
  split at e
  · rename_i h0
    obtain rfl := (Prod.mk.inj e).1
    subst h0
    exact ⟨by unfold sc; simp, by omega, fun _ => by omega⟩
  rename_i h0
  split at e
  · cases (Prod.mk.inj e).2
  rename_i h1
  split at e
  · cases (Prod.mk.inj e).2
  rename_i h2
  obtain rfl := (Prod.mk.inj e).1
  have hm := h.1
  refine ⟨?_, ?_, ?_⟩
  · unfold sc
    rw [Int.mul_assoc, ← p90, ← Int.pow_add]
    exact congrArg (fun k => m * (2 : Int) ^ k) (by omega)
  · rw [Int.natAbs_mul, Int.natAbs_pow]
    have h3 : 2 ^ (x + 60).toNat ≤ 2 ^ 38 := Nat.pow_le_pow_right (by omega) (by omega)
    have h4 : m.natAbs * 2 ^ (x + 60).toNat ≤ 16777216 * 2 ^ 38 := Nat.mul_le_mul (by omega) h3
    exact Nat.le_trans h4 (by decide +kernel)
  · intro hx
    rw [Int.natAbs_mul, Int.natAbs_pow]
    have h3 : 2 ^ (x + 60).toNat ≤ 2 ^ 36 := Nat.pow_le_pow_right (by omega) (by have := hx h0; omega)
    have h4 : m.natAbs * 2 ^ (x + 60).toNat ≤ 16777216 * 2 ^ 36 := Nat.mul_le_mul (by omega) h3
    exact Nat.le_trans h4 (by decide +kernel)
theorem add_bound {S : Int} {r : Nat} (h : Near (2 * S.natAbs) 1 r) (hb : S.natAbs ≤ 2 ^ 151) : r ≤ 1082130432 := by
  have o : ordN 1082130432 = 2 ^ 151 := by
    unfold ordN
    rw [show mantN 1082130432 = 8388608 by decide, show expoN 1082130432 = 128 by decide]
  exact near_mono (by omega) (show 2 * S.natAbs ≤ 2 * ordN 1082130432 * 1 by rw [o]; omega) h (near_ord (by omega) _)
/-- What is asked of a sum's result: T is the exact sum, c another real's value; both times 2^60. -/
structure Nr (s : (Int × Int) × Int) (T c : Int) (p z : Int) : Prop where
  ok : s.2 = 0
  vd : Vd s.1.1 s.1.2
  or : (scaledV s.1.1 s.1.2 = (0, false) ∧ s.1.2 < -60) ∨ ∃ u, scaledV s.1.1 s.1.2 = (u, true) ∧ u.natAbs ≤ 4611686018427387904 ∧ (u - T).natAbs ≤ (c - T).natAbs ∧ (c = T → s.1 = (p, z))
theorem near_one {p z c T : Int} {r : Nat} (l : Vd p z) (ec : scaledV p z = (c, true)) (hT : T.natAbs ≤ 2305843009213693952) (near : Near (2 * (T * P90).natAbs) 1 r) :
    Nr (resE (decide (T * P90 < 0)) r) T c p z := by
  have hp : (P90).natAbs = 1237940039285380274899124224 := by decide
  have hr := add_bound near (by
    rw [Int.natAbs_mul, hp]
    exact Nat.le_trans (Nat.mul_le_mul_right _ hT) (by decide +kernel))
  have hr2 : r ≤ 2533359615 := by omega
  have ok := (@resE_ok (decide (T * P90 < 0)) r).2 hr2
  have vd := resE_vd (decide (T * P90 < 0)) r
  have ix := @resE_idx (decide (T * P90 < 0)) r hr2
  have sg := resE_sg ok
  have dist := sg_dist near (sc p z) (idx p z) (sc_ord l)
  rw [← sg] at dist
  refine ⟨ok, vd, ?_⟩
  generalize resE (decide (T * P90 < 0)) r = s at *
  obtain ⟨⟨m, x⟩, e⟩ := s
  simp only at *
  obtain ⟨c1, c2, _⟩ := scaled_true l ec
  have ux : m ≠ 0 → x ≤ -22 := fun h0 => by
    have := (idx_parts vd h0).2
    rw [ix] at this
    unfold expoN at this
    omega
  by_cases h0 : m = 0
  · have hs : scaledV m x = (0, true) := by unfold scaledV; rw [if_pos h0]
    obtain ⟨u1, u2, _⟩ := scaled_true vd hs
    refine .inr ⟨0, hs, u2, ?_, fun hc => ?_⟩
    · rw [u1, c1] at dist; unfold P90 at dist; omega
    · subst hc
      rw [u1, c1] at dist
      obtain ⟨e1, e2⟩ := sc_inj vd l (by rw [u1, c1]; unfold P90 at *; omega)
      rw [e1, e2]
  · by_cases hx : x < -60
    · exact .inl ⟨by unfold scaledV; rw [if_neg h0, if_pos hx], hx⟩
    · have hs : scaledV m x = (m * 2 ^ (x + 60).toNat, true) := by unfold scaledV; rw [if_neg h0, if_neg hx, if_neg (by have := ux h0; omega)]
      obtain ⟨u1, u2, _⟩ := scaled_true vd hs
      refine .inr ⟨_, hs, u2, ?_, fun hc => ?_⟩
      · rw [u1, c1] at dist; unfold P90 at dist; omega
      · subst hc
        rw [u1, c1] at dist
        obtain ⟨e1, e2⟩ := sc_inj vd l (by rw [u1, c1]; unfold P90 at *; omega)
        rw [e1, e2]
theorem near_add {m x n y p z a b c : Int} (h : Vd m x) (k : Vd n y) (l : Vd p z) (ea : scaledV m x = (a, true)) (eb : scaledV n y = (b, true)) (ec : scaledV p z = (c, true))
    (ha : m ≠ 0 → x ≤ -24) (hb : n ≠ 0 → y ≤ -24) : Nr (addV m x n y) (a + b) c p z ∧ Nr (subV m x n y) (a - b) c p z := by
  obtain ⟨a1, _, a2⟩ := scaled_true h ea
  obtain ⟨b1, _, b2⟩ := scaled_true k eb
  have a3 := a2 ha
  have b3 := b2 hb
  constructor
  · obtain ⟨r, p1, p2⟩ := add_char h k
    rw [a1, b1, ← Int.add_mul] at p1 p2
    rw [p2]
    exact near_one l ec (by omega) p1
  · obtain ⟨r, p1, p2⟩ := sub_char h k
    rw [a1, b1, ← Int.sub_mul] at p1 p2
    rw [p2]
    exact near_one l ec (by omega) p1
end Go.Proofs.YthmndafjogndaaaGreatDoor

namespace Go.Proofs.YthmndafjogndaaaGreatDoor

/-- The greatest f that grows by powers of two below 2^k and whose square is at most n. -/
def sqF (n : Nat) : Nat → Nat → Nat
  | 0, f => f
  | k + 1, f => if (f + 2 ^ k) * (f + 2 ^ k) ≤ n then sqF n k (f + 2 ^ k) else sqF n k f
def sqV (n : Nat) : Nat := sqF n 32 0
theorem sqF_spec (n : Nat) : ∀ k f, f * f ≤ n → n < (f + 2 ^ k) * (f + 2 ^ k) → sqF n k f * sqF n k f ≤ n ∧ n < (sqF n k f + 1) * (sqF n k f + 1)
  | 0, f, h1, h2 => ⟨h1, by simpa [sqF] using h2⟩
  | k + 1, f, h1, h2 => by
    unfold sqF
    by_cases c : (f + 2 ^ k) * (f + 2 ^ k) ≤ n
    · rw [if_pos c]
      exact sqF_spec n k _ c (by rw [Nat.add_assoc, show 2 ^ k + 2 ^ k = 2 ^ (k + 1) by rw [Nat.pow_succ]; omega]; exact h2)
    · rw [if_neg c]
      exact sqF_spec n k f h1 (by omega)
theorem sq_spec {n : Nat} (h : n < 18446744073709551616) : sqV n * sqV n ≤ n ∧ n < (sqV n + 1) * (sqV n + 1) :=
  sqF_spec n 32 0 (by omega) (by simpa using h)
theorem sq_le {a b n m : Nat} (h1 : a * a ≤ n) (h2 : n ≤ m) (h3 : m < (b + 1) * (b + 1)) : a ≤ b := by
  rcases Nat.lt_or_ge b a with h | h
  · have := Nat.mul_le_mul (show b + 1 ≤ a from h) (show b + 1 ≤ a from h); omega
  · exact h

def rootSh (m : Nat) (x : Int) : Nat := if (x - lzV m) % 2 = 0 then lzV m else lzV m - 1
def rootSq (m : Nat) (x : Int) : Nat := m * 2 ^ rootSh m x
/-- A square root that is to be rounded. -/
def rootV (m x : Int) : Ex :=
  ⟨false, sqV (rootSq m.natAbs x), (x - rootSh m.natAbs x) / 2, decide (sqV (rootSq m.natAbs x) * sqV (rootSq m.natAbs x) ≠ rootSq m.natAbs x)⟩
def sqrtV (m x : Int) : (Int × Int) × Int := (okV (rootV m x).rd, okE (rootV m x).rd)
theorem lz_ge {m : Nat} (h : m < 16777216) : 40 ≤ lzV m ∧ lzV m ≤ 64 := by
  have : nb m ≤ 24 := nb_of_lt (by omega)
  unfold lzV; omega
theorem rootSh_bd {m : Nat} (x : Int) (h : m < 16777216) : 39 ≤ rootSh m x ∧ rootSh m x ≤ 64 ∧ (x - rootSh m x) % 2 = 0 := by
  obtain ⟨a, b⟩ := lz_ge h
  unfold rootSh
  split <;> omega
theorem rootSq_bd {m : Nat} (x : Int) (h0 : m ≠ 0) (h : m < 16777216) : 4611686018427387904 ≤ rootSq m x ∧ rootSq m x < 18446744073709551616 := by
  obtain ⟨a, b, c⟩ := lz_bounds h0 (show m < 18446744073709551616 by omega)
  obtain ⟨d, e⟩ := lz_ge h
  unfold rootSq rootSh
  split
  · omega
  · have : m * 2 ^ lzV m = m * 2 ^ (lzV m - 1) * 2 := by
      rw [Nat.mul_assoc, ← Nat.pow_succ]; congr 2; omega
    omega
theorem rootSq_zero (x : Int) : rootSq 0 x = 0 := by unfold rootSq; omega
/-- A number between the root and what is cut off of it; twice it, times 2^151. -/
def rootQ (m x : Int) : Nat := (2 * (rootV m x).man + if (rootV m x).more then 1 else 0) * 2 ^ ((rootV m x).exp + 151).toNat
theorem sqrt_char {m x : Int} (h : Vd m x) : ∃ r, Near (rootQ m x) 2 r ∧ (rootV m x).rd = resI false r := by
  have hm := h.1
  have hx := h.2.1
  obtain ⟨b1, b2, b3⟩ := rootSh_bd x hm
  have big : m ≠ 0 → 33554432 ≤ (rootV m x).man := fun h0 => by
    obtain ⟨c1, c2⟩ := rootSq_bd x (show m.natAbs ≠ 0 by omega) hm
    exact sq_le (n := 1125899906842624) (by omega) (Nat.le_trans (by omega) c1) (sq_spec c2).2
  have lt : (rootV m x).man < 18446744073709551616 := by
    by_cases h0 : m = 0
    · subst h0
      unfold rootV; simp only [Int.natAbs_zero, rootSq_zero]; decide
    · obtain ⟨c1, c2⟩ := rootSq_bd x (show m.natAbs ≠ 0 by omega) hm
      have := sq_le (b := 4294967296) (sq_spec c2).1 (Nat.le_of_lt c2) (by omega)
      exact Nat.lt_of_le_of_lt this (by omega)
  have mz : (rootV m x).more = true → m ≠ 0 := fun e h0 => by
    subst h0
    unfold rootV at e; simp only [Int.natAbs_zero, rootSq_zero] at e
    exact absurd e (by decide)
  have hexp : 0 ≤ (rootV m x).exp + 151 + (0 : Nat) := by
    unfold rootV; simp only; omega
  have hp := pow_pos2 ((rootV m x).exp + 151).toNat
  have := roundV_near false (rootV m x).man (rootV m x).exp (rootV m x).more 0 2 (rootQ m x) (by omega) hexp lt
  simp only [Int.natCast_zero, Int.add_zero, Nat.pow_zero, Nat.one_mul] at this
  unfold rootQ at *
  generalize 2 ^ ((rootV m x).exp + 151).toNat = G at *
  refine this ?_ ?_ ?_ ?_ (fun e => big (mz e))
  · rw [Nat.add_mul, Nat.mul_comm 2, Nat.mul_assoc, Nat.mul_comm 2]; exact Nat.le_add_right _ _
  · rw [Nat.add_mul, Nat.mul_comm 2, Nat.mul_assoc, Nat.mul_comm 2, Nat.add_mul]
    split <;> omega
  · intro e
    rw [e]; simp only [Bool.false_eq_true, if_false, Nat.add_zero]
    rw [Nat.mul_comm 2, Nat.mul_assoc, Nat.mul_comm 2]
  · intro e
    rw [e]; simp only [if_true]
    rw [Nat.add_mul, Nat.mul_comm 2, Nat.mul_assoc, Nat.mul_comm 2]
    omega
theorem root_val {m x : Int} (h : Vd m x) : rootSq m.natAbs x * (2 ^ ((rootV m x).exp + 151).toNat * 2 ^ ((rootV m x).exp + 151).toNat) = (sc m x).natAbs * 2 ^ 152 := by
  have hx := h.2.1
  obtain ⟨b1, b2, b3⟩ := rootSh_bd x h.1
  rw [sc_abs]
  unfold rootSq rootV
  simp only
  rw [Nat.mul_assoc, Nat.mul_assoc, ← Nat.pow_add, ← Nat.pow_add, ← Nat.pow_add]
  exact congrArg (fun k => m.natAbs * 2 ^ k) (by omega)
theorem root_mono {m x n y : Int} (h : Vd m x) (k : Vd n y) (h0 : 0 ≤ m) (hle : sc m x ≤ sc n y) : rootQ m x ≤ rootQ n y := by
  by_cases z : m = 0
  · subst z
    have e : rootQ 0 x = 0 := by
      unfold rootQ rootV
      simp only [Int.natAbs_zero, rootSq_zero]
      rw [show sqV 0 = 0 by decide]
      simp
    rw [e]; exact Nat.zero_le _
  have sp : 0 ≤ sc m x := by
    have := sc_neg m x
    have : ¬ sc m x < 0 := fun c => by simp [c] at this; omega
    omega
  have z2 : n ≠ 0 := fun e => by
    have := (sc_zero n y).2 e
    have := (sc_zero m x).1 (by omega)
    exact z this
  have vx := root_val h
  have vy := root_val k
  have hv : (sc m x).natAbs * 2 ^ 152 ≤ (sc n y).natAbs * 2 ^ 152 := Nat.mul_le_mul_right _ (by omega)
  rw [← vx, ← vy] at hv
  obtain ⟨x1, x2⟩ := rootSq_bd x (show m.natAbs ≠ 0 by omega) h.1
  obtain ⟨y1, y2⟩ := rootSq_bd y (show n.natAbs ≠ 0 by omega) k.1
  obtain ⟨s1, s2⟩ := sq_spec x2
  obtain ⟨t1, t2⟩ := sq_spec y2
  have big : 2147483648 ≤ sqV (rootSq n.natAbs y) := sq_le (n := 4611686018427387904) (by omega) y1 t2
  have lt : sqV (rootSq m.natAbs x) ≤ 4294967295 := sq_le (m := 18446744073709551615) s1 (by omega) (by omega)
  have ex : 0 ≤ (rootV m x).exp + 151 := by
    obtain ⟨b1, b2, b3⟩ := rootSh_bd x h.1
    have := h.2.1
    unfold rootV; simp only; omega
  have ey : 0 ≤ (rootV n y).exp + 151 := by
    obtain ⟨b1, b2, b3⟩ := rootSh_bd y k.1
    have := k.2.1
    unfold rootV; simp only; omega
  have hA := pow_pos2 ((rootV m x).exp + 151).toNat
  have hB := pow_pos2 ((rootV n y).exp + 151).toNat
  unfold rootQ
  have key : ∀ i j : Nat, i < j → 2 * 2 ^ i ≤ 2 ^ j := fun i j hij => by
    have : 2 ^ (i + 1) ≤ 2 ^ j := Nat.pow_le_pow_right (by omega) hij
    rw [Nat.pow_succ] at this; omega
  have kxy := key ((rootV m x).exp + 151).toNat ((rootV n y).exp + 151).toNat
  have kyx := key ((rootV n y).exp + 151).toNat ((rootV m x).exp + 151).toNat
  have mx : (rootV m x).man = sqV (rootSq m.natAbs x) := rfl
  have my : (rootV n y).man = sqV (rootSq n.natAbs y) := rfl
  have ox : (rootV m x).more = decide (sqV (rootSq m.natAbs x) * sqV (rootSq m.natAbs x) ≠ rootSq m.natAbs x) := rfl
  have oy : (rootV n y).more = decide (sqV (rootSq n.natAbs y) * sqV (rootSq n.natAbs y) ≠ rootSq n.natAbs y) := rfl
  rw [mx, my, ox, oy]
  rcases Nat.lt_trichotomy ((rootV m x).exp + 151).toNat ((rootV n y).exp + 151).toNat with c | c | c
  · have c1 := kxy c
    clear hv vx vy mx my ox oy kxy kyx
    generalize 2 ^ ((rootV m x).exp + 151).toNat = A at *
    generalize 2 ^ ((rootV n y).exp + 151).toNat = B at *
    have l1 : (2 * sqV (rootSq m.natAbs x) + if decide (sqV (rootSq m.natAbs x) * sqV (rootSq m.natAbs x) ≠ rootSq m.natAbs x) = true then 1 else 0) * A ≤ 8589934592 * A :=
      Nat.mul_le_mul_right _ (by split <;> omega)
    have l2 : 4294967296 * B ≤ (2 * sqV (rootSq n.natAbs y) + if decide (sqV (rootSq n.natAbs y) * sqV (rootSq n.natAbs y) ≠ rootSq n.natAbs y) = true then 1 else 0) * B :=
      Nat.mul_le_mul_right _ (by omega)
    omega
  · rw [c] at hv ⊢
    have hq : rootSq m.natAbs x ≤ rootSq n.natAbs y := Nat.le_of_mul_le_mul_right hv (Nat.mul_pos hB hB)
    apply Nat.mul_le_mul_right
    have hle2 := sq_le s1 hq t2
    rcases Nat.lt_or_ge (sqV (rootSq m.natAbs x)) (sqV (rootSq n.natAbs y)) with g | g
    · split <;> split <;> omega
    · have ge : sqV (rootSq m.natAbs x) = sqV (rootSq n.natAbs y) := by omega
      rw [ge] at s1 ⊢
      generalize sqV (rootSq n.natAbs y) * sqV (rootSq n.natAbs y) = K at *
      split
      · rename_i d
        have : K ≠ rootSq n.natAbs y := by have := of_decide_eq_true d; omega
        rw [if_pos (by simpa using this)]; omega
      · omega
  · exfalso
    have c1 := kyx c
    clear vx vy mx my ox oy kxy kyx
    generalize 2 ^ ((rootV m x).exp + 151).toNat = A at *
    generalize 2 ^ ((rootV n y).exp + 151).toNat = B at *
    have l1 : (2 * B) * (2 * B) ≤ A * A := Nat.mul_le_mul c1 c1
    have l2 : 4611686018427387904 * ((2 * B) * (2 * B)) ≤ rootSq m.natAbs x * (A * A) := Nat.mul_le_mul x1 l1
    have l3 : rootSq n.natAbs y * (B * B) < 18446744073709551616 * (B * B) := Nat.mul_lt_mul_of_pos_right y2 (Nat.mul_pos hB hB)
    have l4 : (2 * B) * (2 * B) = 4 * (B * B) := by rw [Nat.mul_mul_mul_comm]
    omega
theorem sqrt_vd {m x : Int} (h : Vd m x) : Vd (sqrtV m x).1.1 (sqrtV m x).1.2 := by
  obtain ⟨r, a, b⟩ := sqrt_char h
  have : sqrtV m x = resE false r := by unfold sqrtV resE; rw [b]
  rw [this]; exact resE_vd _ _
theorem sqrt_mono {m x n y : Int} (h : Vd m x) (k : Vd n y) (h0 : 0 ≤ m) (hle : sc m x ≤ sc n y) : Ord (sqrtV m x) (sqrtV n y) := by
  obtain ⟨r, a, b⟩ := sqrt_char h
  obtain ⟨s, c, d⟩ := sqrt_char k
  have e1 : sqrtV m x = resE false r := by unfold sqrtV resE; rw [b]
  have e2 : sqrtV n y = resE false s := by unfold sqrtV resE; rw [d]
  rw [e1, e2]
  intro f g
  rw [resE_sg f, resE_sg g]
  have := ord_le (near_mono (by omega) (root_mono h k h0 hle) a c)
  unfold sg
  simp only [Bool.false_eq_true, if_false]
  omega
end Go.Proofs.YthmndafjogndaaaGreatDoor

namespace Go.Proofs.YthmndafjogndaaaGreatDoor
open Go

section
variable {P : Program} {ops : Array Oper} {Q : Exit → Act → World → Prop} {md : Region.Mode} {T : World → Prop} {s : Nat}
/-- Two operations can come up, the one or the other. -/
theorem GoS.two {i j : Nat} {o p : Oper} {fuel : Nat} {listed : Array Bool} {a : Act} {w : World} (hr : Region.ready md ops listed = [i, j]) (ho : ops[i]? = some o) (hp : ops[j]? = some p)
    (h : ∀ K' : Act → World → Prop, Shut (∀ a w, T w → (T w → GoS P md ops Q T s fuel (listed.setIfInBounds i true) a w) → K' a w) → if Region.wanted o (yielded ops a.tmps) = true then Oper.wp P o a w K' Q else K' (a.put o.dst undef) w)
    (k : ∀ K' : Act → World → Prop, Shut (∀ a w, T w → (T w → GoS P md ops Q T s fuel (listed.setIfInBounds j true) a w) → K' a w) → if Region.wanted p (yielded ops a.tmps) = true then Oper.wp P p a w K' Q else K' (a.put p.dst undef) w) :
    GoS P md ops Q T s (fuel + 1) listed a w := fun hcl => by
  refine ⟨fun h0 => (by rw [h0] at hr; cases hr), fun l hl => ?_⟩
  have hl' := hl
  rw [hr] at hl'
  rcases List.mem_cons.1 hl' with rfl | hl'
  · exact wpOp_step ho (fun K' hK => h K' (fun a w hT hW => hK a w ⟨fun _ => hT, hW hT (closed_set hcl hl)⟩))
  · obtain rfl : l = j := by simpa using hl'
    exact wpOp_step hp (fun K' hK => k K' (fun a w hT hW => hK a w ⟨fun _ => hT, hW hT (closed_set hcl hl)⟩))
end
end Go.Proofs.YthmndafjogndaaaGreatDoor
