/- Layer 1: the pairs of ends, gone over by a range over a function. -/
import Derived.Test.YtmcajdfbkhaplaaWe
import Derived.RangeFuncNested
import Derived.RangeFuncBound
import Derived.RangeFuncCalls
import Derived.RangeFuncLeaves
import Derived.Shelf.Abstract
import Derived.Shelf.RegionOpen
import Derived.OwnWalkIn
import Derived.TacticsInMore
import Derived.LoopNIn
import Derived.LoopIn
namespace Go.Proofs.Ytmcajdfbkhaplaa
open Go.RowKit Go.Shelf
attribute [local go_sem] Oper.semAt_some

/-- Two blocks are as they were. -/
def KeepsAt (B1 B2 : Nat) (W W' : World) : Prop := W'.heap[B1]? = W.heap[B1]? ∧ W'.heap[B2]? = W.heap[B2]?
theorem KeepsAt.trans {B1 B2 : Nat} {A B C : World} (h : KeepsAt B1 B2 A B) (k : KeepsAt B1 B2 B C) : KeepsAt B1 B2 A C := ⟨k.1.trans h.1, k.2.trans h.2⟩
theorem KeepsAt.c1 {B1 B2 : Nat} {A B : World} (h : KeepsAt B1 B2 A B) (o : Nat) : B.cell? ⟨B1, o, none⟩ = A.cell? ⟨B1, o, none⟩ := World.cell?_of_block (w := A) h.1
theorem KeepsAt.c2 {B1 B2 : Nat} {A B : World} (h : KeepsAt B1 B2 A B) (o : Nat) : B.cell? ⟨B2, o, none⟩ = A.cell? ⟨B2, o, none⟩ := World.cell?_of_block (w := A) h.2
theorem keepsAt_b {B1 B2 : Nat} {w : World} (h1 : B1 < w.heap.size) (h2 : B2 < w.heap.size) : ∀ (W : World) (l : Nat) (o o' : Obj), w.heap.size ≤ l → W.heap[l]? = some o → o.isCells = false → o.isWalk = false → KeepsAt B1 B2 W (W.putObj l o') :=
  fun W l o o' hl _ _ _ => ⟨World.putObj_heap_other (by omega), World.putObj_heap_other (by omega)⟩

theorem pairs_in (a b c d : Int) (w : World) :
    CallsIn Fence.wide 3 Try.prog 92 #[.agg #[.int .i64 a, .int .i64 b], .agg #[.int .i64 c, .int .i64 d]] w fun e w' => e = .returned (.func (.func 95) #[] #[.pointer (some ⟨w.heap.size, 0, none⟩), .pointer (some ⟨w.heap.size + 1, 0, none⟩)]) ∧
      w' = (w.alloc (.cells #[.int .i64 a, .int .i64 b] 35)).alloc (.cells #[.int .i64 c, .int .i64 d] 35) := by
  refine callsIn_of_wp Try.func92 rfl trivial ?_ rfl
  simp only [Try.ntmps92, List.size_toArray, List.length_cons, List.length_nil, Nat.reduceAdd, Nat.reduceSub, Array.replicate_succ, Array.replicate_zero, List.push_toArray, List.append_toArray, List.nil_append, List.cons_append]
  gi_wp2
  go_ret
  exact ⟨rfl, rfl⟩

set_option maxRecDepth 100000 in
set_option maxHeartbeats 2000000 in
theorem pairs_stops {P : Int → Int → Prop} (B1 B2 : Nat) (a b c d : Int) (p1 : P a c) (p2 : P a d) (p3 : P b c) (p4 : P b d) (w : World) (h1 : B1 < w.heap.size) (h2 : B2 < w.heap.size)
    (ca : w.cell? ⟨B1, 0, none⟩ = some (.int .i64 a)) (cb : w.cell? ⟨B1, 1, none⟩ = some (.int .i64 b)) (cc : w.cell? ⟨B2, 0, none⟩ = some (.int .i64 c)) (cd : w.cell? ⟨B2, 1, none⟩ = some (.int .i64 d)) :
    SeqStopsK Fence.wide 3 Try.prog 95 #[.pointer (some ⟨B1, 0, none⟩), .pointer (some ⟨B2, 0, none⟩)] (fun x : { x : Int × Int // P x.1 x.2 } => #[.int .i64 x.1.1, .int .i64 x.1.2]) (KeepsAt B1 B2)
      (fun xs => xs = [⟨(a, c), p1⟩, ⟨(a, d), p2⟩, ⟨(b, c), p3⟩, ⟨(b, d), p4⟩]) (fun _ => True) 4 w := fun l J Jx W hW _ _ hY h0 => by
  have ca0 := (hW.cell (p := ⟨B1, 0, none⟩) h1).trans ca
  have cb0 := (hW.cell (p := ⟨B1, 1, none⟩) h1).trans cb
  have cc0 := (hW.cell (p := ⟨B2, 0, none⟩) h2).trans cc
  have cd0 := (hW.cell (p := ⟨B2, 1, none⟩) h2).trans cd
  clear ca cb cc cd hW
  have i0 : ∀ (x0 x1 : Value) (w : World), (Instr.index 68 (.agg #[x0, x1]) (.int .i64 0)).run Try.prog w = .ok x0 w := fun _ _ _ => by kernel_rfl
  have i1 : ∀ (x0 x1 : Value) (w : World), (Instr.index 68 (.agg #[x0, x1]) (.int .i64 1)).run Try.prog w = .ok x1 w := fun _ _ _ => by kernel_rfl
  refine callsIn_of_wp Try.func95 rfl trivial ?_ rfl
  simp only [Try.ntmps95, List.size_toArray, List.length_cons, List.length_nil, Nat.reduceAdd, Nat.reduceSub, Array.replicate_succ, Array.replicate_zero, List.push_toArray, List.append_toArray, List.nil_append, List.cons_append]
  obtain ⟨f1, t1, s1, b1, hy1, hR1⟩ := hY [] ⟨(a, c), p1⟩ W h0 (by simp)
  dsimp only at hy1
  gi_wp2
  refine wpIn_loop_rounds 3 ?_
  rw [roundsIn_succ]
  gi_wp2
  refine wpIn_loop_rounds 3 ?_
  rw [roundsIn_succ]
  gi_wp2
  refine hR1.mono ?_
  clear hy1 hR1
  rintro e W1 (⟨rfl, hJ1, hk1⟩ | ⟨rfl, hx1⟩)
  rotate_left
  · gi_wp2
    refine bodyPost_ret (results_none rfl _ _ _) rfl ?_
    exact ⟨⟨_, rfl⟩, .inr ⟨_, trivial, hx1⟩⟩
  have ca1 := (hk1.c1 0).trans ca0
  have cb1 := (hk1.c1 1).trans cb0
  have cc1 := (hk1.c2 0).trans cc0
  have cd1 := (hk1.c2 1).trans cd0
  obtain ⟨f2, t2, s2, b2, hy2, hR2⟩ := hY _ ⟨(a, d), p2⟩ W1 hJ1 (by simp)
  dsimp only at hy2
  clear ca0 cb0 cc0 cd0 hk1 hJ1 h0
  gi_wp2
  rw [roundsIn_succ]
  gi_wp2
  refine hR2.mono ?_
  clear hy2 hR2
  rintro e W2 (⟨rfl, hJ2, hk2⟩ | ⟨rfl, hx2⟩)
  rotate_left
  · gi_wp2
    refine bodyPost_ret (results_none rfl _ _ _) rfl ?_
    exact ⟨⟨_, rfl⟩, .inr ⟨_, trivial, hx2⟩⟩
  have ca2 := (hk2.c1 0).trans ca1
  have cb2 := (hk2.c1 1).trans cb1
  have cc2 := (hk2.c2 0).trans cc1
  have cd2 := (hk2.c2 1).trans cd1
  obtain ⟨f3, t3, s3, b3, hy3, hR3⟩ := hY _ ⟨(b, c), p3⟩ W2 hJ2 (by simp)
  dsimp only at hy3
  clear ca1 cb1 cc1 cd1 hk2 hJ2
  gi_wp2
  rw [roundsIn_succ]
  gi_wp2
  rw [roundsIn_succ]
  gi_wp2
  refine wpIn_loop_rounds 3 ?_
  rw [roundsIn_succ]
  gi_wp2
  refine hR3.mono ?_
  clear hy3 hR3
  rintro e W3 (⟨rfl, hJ3, hk3⟩ | ⟨rfl, hx3⟩)
  rotate_left
  · gi_wp2
    refine bodyPost_ret (results_none rfl _ _ _) rfl ?_
    exact ⟨⟨_, rfl⟩, .inr ⟨_, trivial, hx3⟩⟩
  have ca3 := (hk3.c1 0).trans ca2
  have cb3 := (hk3.c1 1).trans cb2
  have cc3 := (hk3.c2 0).trans cc2
  have cd3 := (hk3.c2 1).trans cd2
  obtain ⟨f4, t4, s4, b4, hy4, hR4⟩ := hY _ ⟨(b, d), p4⟩ W3 hJ3 (by simp)
  dsimp only at hy4
  clear ca2 cb2 cc2 cd2 hk3 hJ3
  gi_wp2
  rw [roundsIn_succ]
  gi_wp2
  refine hR4.mono ?_
  clear hy4 hR4
  rintro e W4 (⟨rfl, hJ4, hk4⟩ | ⟨rfl, hx4⟩)
  rotate_left
  · gi_wp2
    refine bodyPost_ret (results_none rfl _ _ _) rfl ?_
    exact ⟨⟨_, rfl⟩, .inr ⟨_, trivial, hx4⟩⟩
  clear ca3 cb3 cc3 cd3 hk4
  gi_wp2
  rw [roundsIn_succ]
  gi_wp2
  rw [roundsIn_succ]
  gi_wp2
  go_end0
  exact ⟨⟨_, rfl⟩, .inl ⟨_, rfl, by simpa using hJ4⟩⟩
end Go.Proofs.Ytmcajdfbkhaplaa
