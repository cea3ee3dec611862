/- The walk of IntegerCounts. -/
import Derived.Test.YthbajdpblgclpaaWf
import Derived.Test.YthbajdpblgclpaaWh
namespace Go.Proofs.Ythbajdpblgclpaa.integerCounts
open Go.RowKit
set_option maxRecDepth 100000 in
set_option maxHeartbeats 8000000 in
theorem walk (a0 : Value) (l0 : List Int) (a1 : Int) (w1 : (Lit.int .i64 a1).wf = true) (a2 : Int) (w2 : (Lit.int .i64 a2).wf = true) (a3 : Int) (w3 : (Lit.int .i64 a3).wf = true) (w : World) (h0 : IsInts w a0 l0) :
    Calls Try.prog 5 #[a0, .int .i64 a1, .int .i64 a2, .int .i64 a3] w fun e w' => e = .returned (.bool true) ∧ Ext w w' := by
  clear w1 w2 w3
  have H0 := Lib.hid h0
  clear h0
  go_enter Try.func5, Try.ntmps5
  go_wp2_with (first | (go_at_call 45; refine (sum_any _ _ _ H0.out).mono ?_; rintro e w' ⟨rfl, rfl⟩) | (go_at_call 46; refine (rsum_any _ _ _ H0.out).mono ?_; rintro e w' ⟨rfl, rfl⟩) | (go_at_call 47; refine (trips_any _ _ _ _).mono ?_; rintro e w' ⟨rfl, hx⟩) | (go_at_call 48; refine (rtrips_any _ _ _ _).mono ?_; rintro e w' ⟨rfl, hx⟩) | (go_at_call 34; refine (awake_any _).mono ?_; rintro e w' ⟨rfl, hx⟩))
  all_goals go_ret
  all_goals exact ⟨rfl, by repeat (first | exact Ext.refl _ | assumption | refine Ext.trans ?_ (by assumption))⟩
end Go.Proofs.Ythbajdpblgclpaa.integerCounts
