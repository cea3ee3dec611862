/- Layer 2: the order of the reals. -/
/- What a law's row asks behind the call, out of 'Ext'. -/
/- Tables that a row lists: what the condition gives a walk. -/
/- Layer 2: reals that lie in blocks of a call; Sub. -/
/- Layer 2: what the walks of the laws of indices share. -/
/- Layer 2: square roots (no program here). -/
/- Regions in which one of two operations may come up (no program here). -/
import Derived.Test.YtogfiekbikechaaGreatDoorGq
import Derived.Test.YtogfiekbikechaaGreatDoorGa
import Derived.OpenShut
import Derived.Carry
import Derived.SizedLaws
import Derived.ChangeSlices
import Derived.Test.YtogfiekbikechaaGreatDoorProg
import Derived.Test.YtogfiekbikechaaGreatDoorRows
import Derived.Lib.LaidTab
import Derived.Lib.ItoaMem
import Derived.Stop.LaidErr
import Derived.LaidMore
import Derived.Stop.Joined
import Derived.Test.YtogfiekbikechaaGreatDoorGm
namespace Go.Proofs.YtogfiekbikechaaGreatDoor
open Go.RowKit

end Go.Proofs.YtogfiekbikechaaGreatDoor

namespace Go.Proofs.YtogfiekbikechaaGreatDoor
open Go.ChangeShapes Go.WideShapes Go.ChangeAt Go.RowKit

section
variable {H : Type} {enc : TypeId × Value → H} {P : Program}

theorem trodAll_kept (hl : laidOutB P = true) {W W' : World} (hb : Below W.heap.size W W') : ∀ {ts : List TypeId} {vs : List Value} {ds : List (DataW H)} {ps : List MemPlace},
    (∀ t, t ∈ ts → P.readableRec t = true ∧ t < P.types.size) → DataW.TrodAll enc P W 0 (fun _ => true) true ts vs ds ps → (∀ x, x ∈ ps → x.block < W.heap.size) →
    DataW.TrodAll enc P W' 0 (fun b => decide (b < W.heap.size)) true ts vs ds ps
  | [], vs, ds, ps, _, h, _ => by
    obtain ⟨rfl, rfl, rfl⟩ := trodAll_nil h
    exact trodAll_mk0
  | t :: ts, vs, ds, ps, ht, h, hlt => by
    obtain ⟨v, vs', d, ds', p, q, rfl, rfl, rfl, h0, h1⟩ := trodAll_cons h
    exact trodAll_cons_mk (Below.trod hl (ht t List.mem_cons_self).1 (ht t List.mem_cons_self).2 h0 hb (fun x hx => hlt x (List.mem_append.2 (Or.inl hx))))
      (trodAll_kept hl hb (fun u hu => ht u (List.mem_cons_of_mem _ hu)) h1 (fun x hx => hlt x (List.mem_append.2 (Or.inr hx))))

theorem law_post {f : Func} {s : ChangeSpec} {T : TypeId} (hl : laidOutB P = true) (hT : f.resultTypes = #[T]) (hB : P.underlying T = some .bool) (hv : s.vars = [])
    (hp : ∀ t, t ∈ f.params.toList → P.readableRec t = true ∧ t < P.types.size) {W W' : World} {args : Array Value} {ds gs : List (DataW H)} {before : List MemPlace}
    (hW : DataW.Whole enc P f.params.toList s.vars false W args.toList ds gs before) (hE : Ext W W')
    (hr : (s.fn H (ds ++ gs)).results = [.lit (.bool true)]) (ha : (s.fn H (ds ++ gs)).args = ds) (hvv : (s.fn H (ds ++ gs)).vars = []) :
    s.post enc P f false true false false W args (.bool true) W' := by
  have hlt : ∀ x, x ∈ before → x.block < W.heap.size := fun x hx => by simpa using hW.lt x hx
  have hW0 := hW
  obtain ⟨p, q, hA, hV, rfl, _, _⟩ := hW0
  refine ⟨ds, gs, p ++ q, [], p, [], hW, ?_, ?_, ?_, hE.bel.frame _, fun h => by cases h⟩
  · rw [hr, hT]; exact trodAll_cons_mk (shut_bool hB _) trodAll_mk0
  · rw [ha]; exact trodAll_kept hl hE.bel hp hA (fun x hx => hlt x (List.mem_append.2 (Or.inl hx)))
  · rw [hvv, hv]; rfl
end

/-- A slice that reads as the integers 'l'. -/
def IsInts (w : World) (v : Value) (l : List Int) : Prop :=
  (∃ a cap, v = .slice a 0 cap ∧ l = []) ∨ ∃ b off cap, v = .slice (some ⟨b, off, none⟩) l.length cap ∧ b < w.heap.size ∧ l.length * 8 ≤ 140737488351232 ∧
    (∀ j, j < l.length → w.cell? ⟨b, off + j, none⟩ = some (.int .i64 (l.getD j 0))) ∧ ∀ n, n ∈ l → (Lit.int .i64 n).wf = true

end Go.Proofs.YtogfiekbikechaaGreatDoor

namespace Go.Proofs.YtogfiekbikechaaGreatDoor
open Go.Lib

theorem tabIs_of_mem {P : Program} {W : World} {name : String} {k : IntKind} {zs : List Int} {g : Nat} {t e : TypeId} {n : Nat}
    (hg : P.globalNamed name = some g) (hty : (P.globals[g]?).map (·.type) = some t) (ht : P.underlying t = some (.array n e)) (he : P.underlying e = some (.int k)) (hce : P.cellsOf e = 1) (hct : P.cellsOf t = n) :
    ∀ {l : List (String × DataW Unit)}, laidMet P l W → (name, tabData k zs) ∈ l → TabIs P W name k zs
  | [], _, hm => by cases hm
  | x :: r, h, hm => by
    rcases List.mem_cons.1 hm with e | hm
    · subst e; exact tabIs_of_head hg hty ht he hce hct h
    · exact tabIs_of_mem hg hty ht he hce hct h.tail hm
end Go.Proofs.YtogfiekbikechaaGreatDoor

namespace Go.Proofs.YtogfiekbikechaaGreatDoor
open Go.RowKit

/-- Since w nothing old has changed, and the blocks of L, which are new, hold these reals. -/
structure Fr (w u : World) (L : List (Nat × Int × Int)) : Prop where
  x : Ext w u
  nd : (L.map (·.1)).Nodup
  c : ∀ e ∈ L, w.heap.size ≤ e.1 ∧ e.1 < u.heap.size ∧ u.cell? ⟨e.1, 0, none⟩ = some (.int .i64 e.2.1) ∧ u.cell? ⟨e.1, 1, none⟩ = some (.int .i64 e.2.2) ∧ ∀ j, u.frozen? ⟨e.1, j, none⟩ = false
theorem Fr.nil (w : World) : Fr w w [] := ⟨Ext.refl w, List.nodup_nil, fun e he => by cases he⟩
theorem Fr.later {w u v : World} {L : List (Nat × Int × Int)} (h : Fr w u L) (hx : Ext u v) : Fr w v L :=
  ⟨h.x.trans hx, h.nd, fun e he => by
    obtain ⟨a, b, c0, c1, f⟩ := h.c e he
    exact ⟨a, Nat.lt_of_lt_of_le b hx.size, (hx.cell 0 b).trans c0, (hx.cell 1 b).trans c1, fun j => (hx.froz j b).trans (f j)⟩⟩
theorem Fr.lay {w u : World} {L : List (Nat × Int × Int)} (h : Fr w u L) (m x : Int) (T : TypeId) : Fr w (u.alloc (.cells #[.int .i64 m, .int .i64 x] T)) ((u.heap.size, m, x) :: L) := by
  have k := h.later ((Ext.refl u).alloc (.cells #[.int .i64 m, .int .i64 x] T))
  refine ⟨k.x, List.nodup_cons.2 ⟨?_, h.nd⟩, ?_⟩
  · intro hm
    obtain ⟨e, he, e1⟩ := List.mem_map.1 hm
    have := (h.c e he).2.1
    simp only at e1
    omega
  · intro e he
    rcases List.mem_cons.1 he with rfl | he
    · exact ⟨h.x.size, by simp, by simp [go_sem], by simp [go_sem], fun j => by simp [go_sem]⟩
    · exact k.c e he
/-- What a call returns from every world, with nothing old changed. -/
def Ret (f : FuncId) (args : Array Value) (v : Value) : Prop := ∀ w : World, Calls Tryz.prog f args w fun e w' => e = .returned v ∧ Ext w w'
theorem two_cells {W : World} {S : Nat} {x y x0 y0 : Value} (h0 : W.cell? ⟨S, 0, none⟩ = some x0) (h1 : W.cell? ⟨S, 1, none⟩ = some y0) :
    ((W.setCell ⟨S, 0, none⟩ x).setCell ⟨S, 1, none⟩ y).cell? ⟨S, 0, none⟩ = some x ∧ ((W.setCell ⟨S, 0, none⟩ x).setCell ⟨S, 1, none⟩ y).cell? ⟨S, 1, none⟩ = some y := by
  have c0 : (W.setCell ⟨S, 0, none⟩ x).cell? ⟨S, 0, none⟩ = some x := World.cell?_setCell_same' _ _ _ (by rw [h0]; rfl)
  have c1 : (W.setCell ⟨S, 0, none⟩ x).cell? ⟨S, 1, none⟩ = some y0 := by rw [World.cell?_setCell_other _ _ _ _ (by simp)]; exact h1
  exact ⟨by rw [World.cell?_setCell_other _ _ _ _ (by simp)]; exact c0, World.cell?_setCell_same' _ _ _ (by rw [c1]; rfl)⟩
/-- One of the blocks is written anew. -/
theorem Fr.set {w u : World} {L : List (Nat × Int × Int)} (h : Fr w u L) (i : Nat) {b : Nat} {m0 x0 : Int} (hi : L[i]? = some (b, m0, x0)) (m x : Int) :
    Fr w ((u.setCell ⟨b, 0, none⟩ (.int .i64 m)).setCell ⟨b, 1, none⟩ (.int .i64 x)) (L.set i (b, m, x)) := by
  obtain ⟨a0, b0, c0, c1, f0⟩ := h.c _ (List.mem_of_getElem? hi)
  simp only at a0 b0 c0 c1 f0
  have hm : (L.set i (b, m, x)).map (·.1) = L.map (·.1) := by
    rw [List.map_set]
    apply List.ext_getElem?
    intro k
    by_cases e : i = k
    · subst e
      rw [List.getElem?_set_self' , List.getElem?_map, hi]; rfl
    · rw [List.getElem?_set_ne e]
  refine ⟨(h.x.setCell a0 _).setCell a0 _, by rw [hm]; exact h.nd, ?_⟩
  intro e he
  obtain ⟨k, hk⟩ := List.mem_iff_getElem?.1 he
  by_cases q : i = k
  · subst q
    rw [List.getElem?_set_self' , hi] at hk
    obtain rfl : (b, m, x) = e := by simpa using hk
    obtain ⟨q0, q1⟩ := two_cells (x := .int .i64 m) (y := .int .i64 x) c0 c1
    exact ⟨a0, by simpa using b0, q0, q1, fun j => by simpa using f0 j⟩
  · rw [List.getElem?_set_ne q] at hk
    obtain ⟨a1, b1, d0, d1, f1⟩ := h.c e (List.mem_of_getElem? hk)
    have ne : e.1 ≠ b := fun eb => q (by
      have n1 : (L.map (·.1))[i]? = (L.map (·.1))[k]? := by rw [List.getElem?_map, List.getElem?_map, hi, hk]; simp [eb]
      exact (List.getElem?_inj (by rw [List.length_map]; exact (List.getElem?_eq_some_iff.1 hi).1) h.nd).1 n1)
    refine ⟨a1, by simpa using b1, ?_, ?_, fun j => by simpa using f1 j⟩
    · rw [World.cell?_setCell_other _ _ _ _ (by simp []), World.cell?_setCell_other _ _ _ _ (by simp [])]; exact d0
    · rw [World.cell?_setCell_other _ _ _ _ (by simp []), World.cell?_setCell_other _ _ _ _ (by simp [])]; exact d1
theorem Fr.ne {w u : World} {L : List (Nat × Int × Int)} (h : Fr w u L) (i j : Nat) {b c : Nat} {m x n y : Int} (hi : L[i]? = some (b, m, x)) (hj : L[j]? = some (c, n, y)) (hij : i ≠ j) : b ≠ c := fun e => by
  subst e
  exact hij ((List.getElem?_inj (by rw [List.length_map]; exact (List.getElem?_eq_some_iff.1 hi).1) h.nd).1 (by rw [List.getElem?_map, List.getElem?_map, hi, hj]; rfl))
theorem Fr.c0 {w u : World} {L : List (Nat × Int × Int)} (h : Fr w u L) {b : Nat} {m x : Int} (he : (b, m, x) ∈ L) : u.cell? ⟨b, 0, none⟩ = some (.int .i64 m) := (h.c _ he).2.2.1
theorem Fr.c1 {w u : World} {L : List (Nat × Int × Int)} (h : Fr w u L) {b : Nat} {m x : Int} (he : (b, m, x) ∈ L) : u.cell? ⟨b, 1, none⟩ = some (.int .i64 x) := (h.c _ he).2.2.2.1
theorem Fr.fz {w u : World} {L : List (Nat × Int × Int)} (h : Fr w u L) {b : Nat} {m x : Int} (he : (b, m, x) ∈ L) (j : Nat) : u.frozen? ⟨b, j, none⟩ = false := (h.c _ he).2.2.2.2 j
theorem Fr.lt {w u : World} {L : List (Nat × Int × Int)} (h : Fr w u L) {b : Nat} {m x : Int} (he : (b, m, x) ∈ L) : b < u.heap.size := (h.c _ he).2.1
theorem Fr.g0 {w u : World} {L : List (Nat × Int × Int)} (h : Fr w u L) {b : Nat} {m x : Int} (he : (b, m, x) ∈ L) (ob : Obj) : (u.alloc ob).cell? ⟨b, 0, none⟩ = some (.int .i64 m) := (h.later ((Ext.refl u).alloc ob)).c0 he
theorem Fr.g1 {w u : World} {L : List (Nat × Int × Int)} (h : Fr w u L) {b : Nat} {m x : Int} (he : (b, m, x) ∈ L) (ob : Obj) : (u.alloc ob).cell? ⟨b, 1, none⟩ = some (.int .i64 x) := (h.later ((Ext.refl u).alloc ob)).c1 he

/-! ### Sub -/
/-- The blocks of Sub's closure. -/
structure SubT (w : World) (m x n y : Int) (u : World) : Prop where
  e : Ext w u
  sz : w.heap.size + 1 + 1 < u.heap.size
  p0 : u.cell? ⟨w.heap.size, 0, none⟩ = some (.int .i64 m)
  p1 : u.cell? ⟨w.heap.size, 1, none⟩ = some (.int .i64 x)
  q0 : u.cell? ⟨w.heap.size + 1, 0, none⟩ = some (.int .i64 n)
  q1 : u.cell? ⟨w.heap.size + 1, 1, none⟩ = some (.int .i64 y)
  c0 : u.cell? ⟨w.heap.size + 1 + 1, 0, none⟩ = some (.bool false)
  c1 : u.cell? ⟨w.heap.size + 1 + 1, 1, none⟩ = some (.int .u64 0)
  c2 : u.cell? ⟨w.heap.size + 1 + 1, 2, none⟩ = some (.int .i64 0)
  c3 : u.cell? ⟨w.heap.size + 1 + 1, 3, none⟩ = some (.bool false)
  f0 : ∀ j, u.frozen? ⟨w.heap.size + 1 + 1, j, none⟩ = false
theorem SubT.later {w u v : World} {m x n y : Int} (h : SubT w m x n y u) (hx : Ext u v) : SubT w m x n y v := by
  have sz := h.sz
  exact ⟨h.e.trans hx, Nat.lt_of_lt_of_le h.sz hx.size, (hx.cell 0 (by omega)).trans h.p0, (hx.cell 1 (by omega)).trans h.p1, (hx.cell 0 (by omega)).trans h.q0, (hx.cell 1 (by omega)).trans h.q1,
    (hx.cell 0 (by omega)).trans h.c0, (hx.cell 1 (by omega)).trans h.c1, (hx.cell 2 (by omega)).trans h.c2, (hx.cell 3 (by omega)).trans h.c3, fun j => (hx.froz j (by omega)).trans (h.f0 j)⟩
end Go.Proofs.YtogfiekbikechaaGreatDoor

namespace Go.Proofs.YtogfiekbikechaaGreatDoor
open Go.RowKit
theorem Ret.call {f : FuncId} {args : Array Value} {v : Value} (h : Ret f args v) (w : World) : Calls Tryz.prog f args w fun e w' => e = .returned v ∧ Ext w w' := h w
theorem bdI {i : Int} (h : (Lit.int .i64 i).wf = true) : -9223372036854775808 ≤ i ∧ i ≤ 9223372036854775807 := by
  simp only [Lit.wf, Bool.and_eq_true, decide_eq_true_eq] at h
  have e : IntKind.i64.min = -9223372036854775808 := by decide
  have e2 : IntKind.i64.max = 9223372036854775807 := by decide
  omega
end Go.Proofs.YtogfiekbikechaaGreatDoor

namespace Go.Proofs.YtogfiekbikechaaGreatDoor

end Go.Proofs.YtogfiekbikechaaGreatDoor

namespace Go.Proofs.YtogfiekbikechaaGreatDoor
open Go

section
variable {P : Program} {ops : Array Oper} {Q : Exit → Act → World → Prop} {md : Region.Mode} {T : World → Prop} {s : Nat}
/-- Two operations can come up, the one or the other. -/
theorem GoS.two {i j : Nat} {o p : Oper} {fuel : Nat} {listed : Array Bool} {a : Act} {w : World} (hr : Region.ready md ops listed = [i, j]) (ho : ops[i]? = some o) (hp : ops[j]? = some p)
    (h : ∀ K' : Act → World → Prop, Shut (∀ a w, T w → (T w → GoS P md ops Q T s fuel (listed.setIfInBounds i true) a w) → K' a w) → if Region.wanted o (yielded ops a.tmps) = true then Oper.wp P o a w K' Q else K' (a.put o.dst undef) w)
    (k : ∀ K' : Act → World → Prop, Shut (∀ a w, T w → (T w → GoS P md ops Q T s fuel (listed.setIfInBounds j true) a w) → K' a w) → if Region.wanted p (yielded ops a.tmps) = true then Oper.wp P p a w K' Q else K' (a.put p.dst undef) w) :
    GoS P md ops Q T s (fuel + 1) listed a w := fun hcl => by
  refine ⟨fun h0 => (by rw [h0] at hr; cases hr), fun l hl => ?_⟩
  have hl' := hl
  rw [hr] at hl'
  rcases List.mem_cons.1 hl' with rfl | hl'
  · exact wpOp_step ho (fun K' hK => h K' (fun a w hT hW => hK a w ⟨fun _ => hT, hW hT (closed_set hcl hl)⟩))
  · obtain rfl : l = j := by simpa using hl'
    exact wpOp_step hp (fun K' hK => k K' (fun a w hT hW => hK a w ⟨fun _ => hT, hW hT (closed_set hcl hl)⟩))
end
end Go.Proofs.YtogfiekbikechaaGreatDoor
