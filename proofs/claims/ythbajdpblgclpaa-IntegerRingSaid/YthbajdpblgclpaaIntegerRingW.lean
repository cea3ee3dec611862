/- The walk of IntegerRing. -/
import Derived.Test.YthbajdpblgclpaaWe
import Derived.Test.YthbajdpblgclpaaMc
namespace Go.Proofs.Ythbajdpblgclpaa.integerRing
open Go.RowKit
set_option maxRecDepth 100000 in
set_option maxHeartbeats 8000000 in
theorem walk (a0 : Int) (w0 : (Lit.int .i64 a0).wf = true) (a1 : Int) (w1 : (Lit.int .i64 a1).wf = true) (a2 : Int) (w2 : (Lit.int .i64 a2).wf = true) (w : World) :
    Calls Try.prog 8 #[.int .i64 a0, .int .i64 a1, .int .i64 a2] w fun e w' => e = .returned (.bool true) ∧ Ext w w' := by
  clear w0 w1 w2
  have c1 := addV_comm a0 a1
  have c2 := addE_comm a0 a1
  have c3 := mulV_comm a0 a1
  have c4 := mulE_comm a0 a1
  rcases Decidable.em (addE a0 a1 = 0) with e | e <;>
  rcases Decidable.em (addE a1 a2 = 0) with f | f <;>
  rcases Decidable.em (mulE a0 a1 = 0) with g | g <;>
  rcases Decidable.em (mulE a0 a2 = 0) with h | h <;>
  (try (have s := sub_add e; obtain ⟨s1, s2⟩ := s)
   try (have t := add_assoc e f; obtain ⟨t1, t2⟩ := t)
   try (have u := mul_dist f g h; obtain ⟨u1, u2⟩ := u)
   try have e' : (addE a0 a1 == 0) = false := by simp [e]
   try have f' : (addE a1 a2 == 0) = false := by simp [f]
   try have g' : (mulE a0 a1 == 0) = false := by simp [g]
   try have h' : (mulE a0 a2 == 0) = false := by simp [h]
   go_enter Try.func8, Try.ntmps8
   go_wp2_with (first | (go_at_call 26; refine (add_any _ _ _).mono ?_; rintro e w' ⟨rfl, rfl⟩) | (go_at_call 30; refine (mul_any _ _ _).mono ?_; rintro e w' ⟨rfl, rfl⟩) | (go_at_call 28; refine (sub_any _ _ _).mono ?_; rintro e w' ⟨rfl, rfl⟩) | (go_at_call 34; refine (awake_any _).mono ?_; rintro e w' ⟨rfl, hx⟩))
   all_goals go_ret
   all_goals exact ⟨rfl, by repeat (first | exact Ext.refl _ | assumption | refine Ext.trans ?_ (by assumption))⟩)
end Go.Proofs.Ythbajdpblgclpaa.integerRing
