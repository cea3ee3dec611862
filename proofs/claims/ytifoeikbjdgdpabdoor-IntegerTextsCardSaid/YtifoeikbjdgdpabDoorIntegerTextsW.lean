/- The walk of IntegerTexts. -/
import Derived.Test.YtifoeikbjdgdpabDoorWq
namespace Go.Proofs.YtifoeikbjdgdpabDoor.integerTexts
open Go.RowKit Go.Lib
set_option maxRecDepth 100000 in
set_option maxHeartbeats 8000000 in
theorem walk (a0 : ByteArray) (w0 : a0.size ≤ maxLen) (a1 : Int) (w1 : (Lit.int .i64 a1).wf = true) (w : World) (ht : Pow10 w) :
    Calls Tryd.prog 8 #[.string a0, .int .i64 a1] w fun e w' => e = .returned (.bool true) ∧ Ext w w' := by
  clear w1
  unfold maxLen at w0
  have HT : Hid (Pow10 w) := ht
  clear ht
  have hs : a0.size ≤ 9223372036854775807 := by omega
  generalize hv : parseV a0.data.toList = v
  generalize he : parseE a0.data.toList = f
  have HV := Lib.hid hv
  have HE := Lib.hid he
  clear hv he
  have p1 : ∀ w, Calls Tryd.prog 18 #[.string a0] w fun e w' => e = .returned (.tuple #[.int .i64 v, .int .i64 f]) ∧ w = w' := fun w => by
    have := parse_any a0 w hs; rw [HV.out, HE.out] at this; exact this
  have p2 : ∀ w, Calls Tryd.prog 19 #[.string a0] w fun e w' => e = .returned (.tuple #[.int .i64 v, .int .i64 f]) ∧ w = w' := fun w => by
    have := rparse_any a0 w hs; rw [HV.out, HE.out] at this; exact this
  have P1 := Lib.hid p1
  have P2 := Lib.hid p2
  clear p1 p2
  rcases Bool.eq_false_or_eq_true (okB a1) with hk | hk
  · go_enter Tryd.func8, Tryd.ntmps8
    go_wp2_with (first | (go_at_call 18; refine (P1.out _).mono ?_; rintro e w' ⟨rfl, rfl⟩) | (go_at_call 19; refine (P2.out _).mono ?_; rintro e w' ⟨rfl, rfl⟩) | (go_at_call 20; refine (print_ok _ _ hk HT.out).mono ?_; rintro e w' ⟨rfl, hx⟩) | (go_at_call 21; refine (rprint_ok _ _ hk (HT.out.later (by assumption))).mono ?_; rintro e w' ⟨rfl, hx2⟩) | (go_at_call 22; refine (awake_any _).mono ?_; rintro e w' ⟨rfl, hx3⟩))
    all_goals go_ret
    all_goals exact ⟨rfl, by repeat (first | exact Ext.refl _ | assumption | refine Ext.trans ?_ (by assumption))⟩
  · go_enter Tryd.func8, Tryd.ntmps8
    go_wp2_with (first | (go_at_call 18; refine (P1.out _).mono ?_; rintro e w' ⟨rfl, rfl⟩) | (go_at_call 19; refine (P2.out _).mono ?_; rintro e w' ⟨rfl, rfl⟩) | (go_at_call 20; refine (print_bad _ _ hk).mono ?_; rintro e w' ⟨rfl, rfl⟩) | (go_at_call 21; refine (rprint_bad _ _ hk).mono ?_; rintro e w' ⟨rfl, rfl⟩) | (go_at_call 22; refine (awake_any _).mono ?_; rintro e w' ⟨rfl, hx3⟩))
    all_goals go_ret
    all_goals exact ⟨rfl, by repeat (first | exact Ext.refl _ | assumption | refine Ext.trans ?_ (by assumption))⟩
end Go.Proofs.YtifoeikbjdgdpabDoor.integerTexts
