/- Layer 1: texts of integers: Print, over the library's Itoa. -/
import Derived.Test.YtifoeikbjdgdpabDoorWp
import Derived.Test.YtifoeikbjdgdpabDoorSh
import Derived.Sort.Grow
namespace Go.Proofs.YtifoeikbjdgdpabDoor
open Go.RowKit Go.Lib

/-- The library's table of powers lies as its initialiser lays it. -/
def Pow10 (w : World) : Prop := TabIs Tryd.prog w "internal/strconv.uint64pow10" .u64 pow10Tab
theorem Pow10.later {w w' : World} (h : Pow10 w) (hx : Ext w w') : Pow10 w' := by
  unfold Pow10 TabIs World.var? at *
  cases hg : Tryd.prog.globalNamed "internal/strconv.uint64pow10" with
  | none => simp [hg] at h
  | some g =>
    simp only [hg, Option.bind_some] at h ⊢
    have hlt : g < w.heap.size := by
      rcases Nat.lt_or_ge g w.heap.size with h' | h'
      · exact h'
      · rw [Array.getElem?_eq_none h'] at h; simp at h
    rw [hx.bel.block g hlt]
    exact h
theorem ext_grow (w : World) (k : Nat) (os : Array Obj) : Ext w (Sort.grow (w.drewN k) os) := by
  refine Ext.trans ((Ext.refl w).drewN k) ⟨rfl, rfl, rfl, by simp, fun j hj => Sort.heap_grow_old _ os hj⟩

theorem print_ok (n : Int) (w : World) (h : okB n = true) (ht : Pow10 w) :
    Calls Tryd.prog 20 #[.int .i64 n] w fun e w' => e = .returned (.tuple #[.string ⟨(itoa n).toArray⟩, .int .i64 0]) ∧ Ext w w' := by
  have g := okB_t.1 h
  obtain ⟨g1, g2⟩ := g
  have HT : Hid (Pow10 w) := ht
  clear ht
  go_enter Tryd.func20, Tryd.ntmps20
  go_wp2_with (first | (go_at_call 23; refine (valid_any _ _).mono ?_; rintro e w' ⟨rfl, rfl⟩) | (go_at_call 39; refine (Tryd.strconv_Itoa n (by omega) (by omega) _ HT.out).mono ?_; rintro e w' ⟨rfl, k, os, hw⟩))
  go_ret2
  exact ⟨rfl, by first | exact ext_grow _ _ _ | (rw [hw]; exact ext_grow _ _ _)⟩
theorem print_bad (n : Int) (w : World) (h : okB n = false) :
    Calls Tryd.prog 20 #[.int .i64 n] w fun e w' => e = .returned (.tuple #[.string ⟨#[]⟩, .int .i64 1]) ∧ w = w' := by
  go_enter Tryd.func20, Tryd.ntmps20
  go_wp2_with (first | (go_at_call 23; refine (valid_any _ _).mono ?_; rintro e w' ⟨rfl, rfl⟩))
  go_ret2
  exact ⟨rfl, rfl⟩
theorem rprint_ok (n : Int) (w : World) (h : okB n = true) (ht : Pow10 w) :
    Calls Tryd.prog 21 #[.int .i64 n] w fun e w' => e = .returned (.tuple #[.string ⟨(itoa n).toArray⟩, .int .i64 0]) ∧ Ext w w' := by
  have g := okB_t.1 h
  obtain ⟨g1, g2⟩ := g
  have HT : Hid (Pow10 w) := ht
  clear ht
  go_enter Tryd.func21, Tryd.ntmps21
  go_wp2_with (first | (go_at_call 40; refine (rvalid_any _ _).mono ?_; rintro e w' ⟨rfl, rfl⟩) | (go_at_call 39; refine (Tryd.strconv_Itoa n (by omega) (by omega) _ HT.out).mono ?_; rintro e w' ⟨rfl, k, os, hw⟩))
  go_ret2
  exact ⟨rfl, by first | exact ext_grow _ _ _ | (rw [hw]; exact ext_grow _ _ _)⟩
theorem rprint_bad (n : Int) (w : World) (h : okB n = false) :
    Calls Tryd.prog 21 #[.int .i64 n] w fun e w' => e = .returned (.tuple #[.string ⟨#[]⟩, .int .i64 1]) ∧ w = w' := by
  go_enter Tryd.func21, Tryd.ntmps21
  go_wp2_with (first | (go_at_call 40; refine (rvalid_any _ _).mono ?_; rintro e w' ⟨rfl, rfl⟩))
  go_ret2
  exact ⟨rfl, rfl⟩
end Go.Proofs.YtifoeikbjdgdpabDoor
