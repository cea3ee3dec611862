/- Layer 1: what stands in every statement about spans. -/
import Derived.Test.YtmcajdfbkhaplaaSe
namespace Go.Proofs.Ytmcajdfbkhaplaa
open Go.RowKit

set_option maxHeartbeats 4000000 in
theorem wide_any (w : World) :
    Calls Try.prog 61 #[] w fun e w' => e = .returned (.bool true) ∧ Ext w w' := by
  have a1 : sL (spB (-3) 4 && spB 2 5) (mn4 (fun x1 x2 => x1 * x2) (-3) 4 2 5) (mx4 (fun x1 x2 => x1 * x2) (-3) 4 2 5) = -15 := by decide
  have a2 : sH (spB (-3) 4 && spB 2 5) (mn4 (fun x1 x2 => x1 * x2) (-3) 4 2 5) (mx4 (fun x1 x2 => x1 * x2) (-3) 4 2 5) = 20 := by decide
  have a3 : sM (spB (-3) 4 && spB 2 5) (mn4 (fun x1 x2 => x1 * x2) (-3) 4 2 5) (mx4 (fun x1 x2 => x1 * x2) (-3) 4 2 5) = false := by decide
  have a4 : sE (spB (-3) 4 && spB 2 5) (mn4 (fun x1 x2 => x1 * x2) (-3) 4 2 5) (mx4 (fun x1 x2 => x1 * x2) (-3) 4 2 5) = 0 := by decide
  have b1 : sL (spB 0 2147483647 && spB 1 1) (0 + 1) (2147483647 + 1) = 1 := by decide
  have b2 : sH (spB 0 2147483647 && spB 1 1) (0 + 1) (2147483647 + 1) = 2147483647 := by decide
  have b3 : sM (spB 0 2147483647 && spB 1 1) (0 + 1) (2147483647 + 1) = true := by decide
  have b4 : sE (spB 0 2147483647 && spB 1 1) (0 + 1) (2147483647 + 1) = 0 := by decide
  have c1 : twoS (spB 1 2 && spB 7 8) (min 1 7) = 1 := by decide
  have c2 : twoS (spB 1 2 && spB 7 8) (max 2 8) = 8 := by decide
  have c3 : oneS (spB 1 2 && spB 7 8) = 0 := by decide
  go_enter Try.func61, Try.ntmps61
  go_wp2_with fail
  refine (spanmul_any (-3) 4 2 5 _).mono ?_
  rintro e w1 ⟨rfl, hx1⟩
  rw [a1, a2, a3, a4]
  clear a1 a2 a3 a4
  go_wp2_with fail
  refine (spanadd_any 0 2147483647 1 1 _).mono ?_
  rintro e w2 ⟨rfl, hx2⟩
  rw [b1, b2, b3, b4]
  clear b1 b2 b3 b4
  have q0 : w2.cell? ⟨w1.heap.size, 0, none⟩ = some (.int .i64 (-15)) := (hx2.cell 0 (by simp)).trans (by simp [go_sem])
  have q1 : w2.cell? ⟨w1.heap.size, 1, none⟩ = some (.int .i64 20) := (hx2.cell 1 (by simp)).trans (by simp [go_sem])
  have s1 := hx2.size
  simp at s1
  go_wp2_with fail
  refine (spanjoin_any 1 2 7 8 _).mono ?_
  rintro e w3 ⟨rfl, hx3⟩
  rw [c1, c2, c3]
  clear c1 c2 c3
  have s2 := hx3.size
  simp at s2
  have r0 : w3.cell? ⟨w1.heap.size, 0, none⟩ = some (.int .i64 (-15)) := (hx3.cell 0 (by simp; omega)).trans ((((Ext.refl w2).alloc _).cell 0 (by omega)).trans q0)
  have r1 : w3.cell? ⟨w1.heap.size, 1, none⟩ = some (.int .i64 20) := (hx3.cell 1 (by simp; omega)).trans ((((Ext.refl w2).alloc _).cell 1 (by omega)).trans q1)
  have r2 : w3.cell? ⟨w2.heap.size, 0, none⟩ = some (.int .i64 1) := (hx3.cell 0 (by simp)).trans (by simp [go_sem])
  have r3 : w3.cell? ⟨w2.heap.size, 1, none⟩ = some (.int .i64 2147483647) := (hx3.cell 1 (by simp)).trans (by simp [go_sem])
  have t0 : ∀ ob, (w3.alloc ob).cell? ⟨w1.heap.size, 0, none⟩ = some (.int .i64 (-15)) := fun ob => (((Ext.refl w3).alloc ob).cell 0 (by omega)).trans r0
  have t1 : ∀ ob, (w3.alloc ob).cell? ⟨w1.heap.size, 1, none⟩ = some (.int .i64 20) := fun ob => (((Ext.refl w3).alloc ob).cell 1 (by omega)).trans r1
  have t2 : ∀ ob, (w3.alloc ob).cell? ⟨w2.heap.size, 0, none⟩ = some (.int .i64 1) := fun ob => (((Ext.refl w3).alloc ob).cell 0 (by omega)).trans r2
  have t3 : ∀ ob, (w3.alloc ob).cell? ⟨w2.heap.size, 1, none⟩ = some (.int .i64 2147483647) := fun ob => (((Ext.refl w3).alloc ob).cell 1 (by omega)).trans r3
  go_wp2
  go_ret
  exact ⟨rfl, by repeat (first | exact Ext.refl _ | assumption | refine Ext.drewN ?_ _ | refine Ext.drew ?_ | refine Ext.alloc ?_ _ | refine Ext.trans ?_ (by assumption))⟩
end Go.Proofs.Ytmcajdfbkhaplaa
