/- Layer 2: the program's Print of every pair of numbers; both texts of a real. -/
import Derived.Test.YtogfiekbikechaaGreatDoorQl
import Derived.Test.YtogfiekbikechaaGreatDoorGq
import Derived.Test.YtogfiekbikechaaGreatDoorGt
namespace Go.Proofs.YtogfiekbikechaaGreatDoor
open Go.RowKit

set_option maxRecDepth 100000 in
set_option maxHeartbeats 4000000 in
theorem print_none (m x : Int) (hv : validV m x = false) (w : World) :
    Calls Tryz.prog 47 #[.agg #[.int .i64 m, .int .i64 x]] w fun e w' => e = .returned (.tuple #[.string ⟨#[]⟩, .int .i64 1]) ∧ Ext w w' := by
  have A := Lib.hid (valid_any m x)
  rw [hv] at A
  clear hv
  go_enter Tryz.func47, Tryz.ntmps47
  go_wp2_with fail
  refine (A.out _).mono ?_
  rintro e w1 ⟨rfl, hx⟩
  have X : Hid (Ext w w1) := Lib.hid (((Ext.refl w).alloc _).trans hx)
  clear hx
  go_wp2
  go_ret2
  exact ⟨rfl, X.out⟩
set_option maxRecDepth 100000 in
set_option maxHeartbeats 4000000 in
theorem print_nil (w : World) :
    Calls Tryz.prog 47 #[.agg #[.int .i64 0, .int .i64 0]] w fun e w' => e = .returned (.tuple #[.string (bs [48, 46, 48]), .int .i64 0]) ∧ Ext w w' := by
  have A := Lib.hid (valid_any 0 0)
  rw [show validV 0 0 = true from rfl] at A
  have eqR := eqReal
  go_enter Tryz.func47, Tryz.ntmps47
  go_wp2_with fail
  refine (A.out _).mono ?_
  rintro e w1 ⟨rfl, hx⟩
  have X : Hid (Ext w w1) := Lib.hid (((Ext.refl w).alloc _).trans hx)
  have p0 : w1.cell? ⟨w.heap.size, 0, none⟩ = some (.int .i64 0) := (hx.cell 0 (by simp)).trans (by simp [go_sem])
  have p1 : w1.cell? ⟨w.heap.size, 1, none⟩ = some (.int .i64 0) := (hx.cell 1 (by simp)).trans (by simp [go_sem])
  clear hx
  go_wp2
  go_ret2
  exact ⟨rfl, X.out⟩
theorem print_all {m x : Int} (hv : validV m x = true) (w : World) (ht : Tb w) :
    Calls Tryz.prog 47 #[.agg #[.int .i64 m, .int .i64 x]] w fun e w' => e = .returned (.tuple #[.string (bs (printT m x)), .int .i64 0]) ∧ Ext w w' := by
  have h := vd_iff.1 hv
  unfold printT
  by_cases m0 : m = 0
  · have x0 : x = 0 := h.2.2.2.1 m0
    subst m0 x0
    rw [if_pos rfl]
    exact print_nil w
  · rw [if_neg m0]
    exact print_any m x hv m0 (digs_of h m0).2 w ht.p
end Go.Proofs.YtogfiekbikechaaGreatDoor
