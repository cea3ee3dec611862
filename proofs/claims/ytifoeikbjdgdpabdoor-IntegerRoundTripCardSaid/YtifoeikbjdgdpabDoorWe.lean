/- Layer 1: what stands in every statement. -/
import Derived.Test.YtifoeikbjdgdpabDoorWd
namespace Go.Proofs.YtifoeikbjdgdpabDoor
open Go.RowKit

theorem awake_any (w : World) :
    Calls Tryd.prog 22 #[] w fun e w' => e = .returned (.bool true) ∧ Ext w w' := by
  have a1 : addV 2147483646 1 = 2147483647 := by decide
  have a2 : addE 2147483646 1 = 0 := by decide
  have a3 : mulE 46341 46341 = 3 := by decide
  have a4 : quoV (-7) 2 = -3 := by decide
  have a5 : divE (-7) 2 = 0 := by decide
  have a6 : floV (-7) 2 = -4 := by decide
  go_enter Tryd.func22, Tryd.ntmps22
  go_wp2_with (first | (go_at_call 41; refine (add_any _ _ _).mono ?_; rintro e w' ⟨rfl, rfl⟩) | (go_at_call 24; refine (mul_any _ _ _).mono ?_; rintro e w' ⟨rfl, rfl⟩) | (go_at_call 42; refine (quo_any _ _ _).mono ?_; rintro e w' ⟨rfl, rfl⟩) | (go_at_call 43; refine (floor_any _ _ _).mono ?_; rintro e w' ⟨rfl, hx⟩))
  go_ret
  exact ⟨rfl, by assumption⟩
end Go.Proofs.YtifoeikbjdgdpabDoor
