/- Layer 1: the law's held. -/
import Derived.Test.YtmcajdfbkhaplaaMh
import Derived.Test.YtmcajdfbkhaplaaSd
namespace Go.Proofs.Ytmcajdfbkhaplaa
open Go.RowKit

set_option maxHeartbeats 2000000 in
theorem held_any (n e lo hi : Int) (may : Bool) (f : Int) (w : World) (h : heldP n e lo hi may f) :
    Calls Try.prog 70 #[.int .i64 n, .int .i64 e, .agg #[.int .i64 lo, .int .i64 hi], .bool may, .int .i64 f] w fun e w' => e = .returned (.bool true) ∧ Ext w w' := by
  rcases h with ⟨rfl, rfl, hi⟩ | ⟨he, ⟨rfl, rfl⟩ | rfl⟩
  · go_enter Try.func70, Try.ntmps70
    go_wp2_with (first | (go_at_call 69; refine (in_any _ _ _ _).mono ?_; rintro e w' ⟨rfl, hx⟩))
    all_goals go_ret
    all_goals exact ⟨by first | rfl | (simp [hi]; done), by repeat (first | exact Ext.refl _ | assumption | refine Ext.drewN ?_ _ | refine Ext.drew ?_ | refine Ext.alloc ?_ _ | refine Ext.setCell ?_ (by dsimp only; omega) _ | refine Ext.trans ?_ (by assumption))⟩
  · have h0 : (e == 0) = false := by simp [he]
    clear he
    go_enter Try.func70, Try.ntmps70
    go_wp2_with (first | (go_at_call 69; refine (in_any _ _ _ _).mono ?_; rintro e w' ⟨rfl, hx⟩))
    all_goals go_ret
    all_goals exact ⟨by first | rfl | (simp; done), by repeat (first | exact Ext.refl _ | assumption | refine Ext.drewN ?_ _ | refine Ext.drew ?_ | refine Ext.alloc ?_ _ | refine Ext.setCell ?_ (by dsimp only; omega) _ | refine Ext.trans ?_ (by assumption))⟩
  · have h0 : (f == 0) = false := by simp [he]
    clear he
    go_enter Try.func70, Try.ntmps70
    go_wp2_with (first | (go_at_call 69; refine (in_any _ _ _ _).mono ?_; rintro e w' ⟨rfl, hx⟩))
    all_goals go_ret
    all_goals exact ⟨by first | rfl | (simp; done), by repeat (first | exact Ext.refl _ | assumption | refine Ext.drewN ?_ _ | refine Ext.drew ?_ | refine Ext.alloc ?_ _ | refine Ext.setCell ?_ (by dsimp only; omega) _ | refine Ext.trans ?_ (by assumption))⟩
end Go.Proofs.Ytmcajdfbkhaplaa
