/- Layer 2: digits laid out. -/
import Derived.Test.YtogfiekbikechaaGreatDoorGk
import Derived.Deep.RegionWith
namespace Go.Proofs.YtogfiekbikechaaGreatDoor
open Go.RowKit

theorem rep_any (c : Nat) (hc : c ≤ 1000) (w : World) :
    Calls Tryz.prog 114 #[.string (bs [48]), .int .i64 c] w fun e w' => e = .returned (.string (bs (List.replicate c 48))) ∧ Ext w w' :=
  (Tryz.strings_Repeat (bs [48]) c w (by omega) (by rw [show (bs [48]).size = 1 from rfl]; omega)).mono fun e w' ⟨h1, h2⟩ => ⟨by
    rw [h1]
    have : Lib.repeatL (bs [48]).data.toList c = List.replicate c 48 := by
      rw [bs_list]
      have := Lib.repeatL_replicate 48 1 c
      rw [Nat.mul_one] at this
      exact this
    rw [this]; rfl, ⟨h2⟩⟩
theorem layout_b (k : Int) (h1 : ¬ k < -3) (h2 : ¬ k > 9) (h3 : k < 1) (d P S : ByteArray) (hd : d.size ≤ 100) (w : World)
    (R : ∀ w, Calls Tryz.prog 114 #[.string (bs [48]), .int .i64 (-k)] w fun e w' => e = .returned (.string P) ∧ Ext w w') (hp : P.size ≤ 100)
    (T : ∀ w, Calls Tryz.prog 112 #[.string ⟨#[]⟩, .string (P ++ d)] w fun e w' => e = .returned (.string S) ∧ Ext w w') :
    Calls Tryz.prog 89 #[.string d, .int .i64 k] w fun e w' => e = .returned (.string S) ∧ Ext w w' := by
  have HR := Lib.hid R
  have HT := Lib.hid T
  clear R T
  go_enter Tryz.func89, Tryz.ntmps89
  go_wp2_with fail
  refine (HR.out _).mono ?_
  rintro e w1 ⟨rfl, hx1⟩
  go_wp2_with fail
  refine (HT.out _).mono ?_
  rintro e w2 ⟨rfl, hx2⟩
  go_wp2
  refine bodyPost_ret (v := .string S) ?_ rfl ⟨rfl, hx1.trans hx2⟩
  simp [results, Tryz.results89, go_sem]
set_option maxHeartbeats 4000000 in
theorem layout_a (k : Int) (q1 : -1000 ≤ k) (q2 : k ≤ 1000) (h : k < -3) (d _P S E : ByteArray) (hd0 : 1 ≤ d.size) (hd : d.size ≤ 100) (w : World)
    (T : ∀ w, Calls Tryz.prog 112 #[.string (d.extract 0 1), .string (d.extract 1 d.size)] w fun e w' => e = .returned (.string S) ∧ Ext w w')
    (I : ∀ u, Ext w u → Calls Tryz.prog 113 #[.int .i64 (k - 1)] u fun e w' => e = .returned (.string E) ∧ Ext u w') (hE : E.size ≤ 100) (hS : S.size ≤ 1000) :
    Calls Tryz.prog 89 #[.string d, .int .i64 k] w fun e w' => e = .returned (.string (S ++ (⟨#[101]⟩ : ByteArray) ++ E)) ∧ Ext w w' := by
  have HT := Lib.hid T
  have HI := Lib.hid I
  clear T I
  go_enter Tryz.func89, Tryz.ntmps89
  go_wp2
  go_region_with ((first | (go_at_call 112; refine (HT.out _).mono ?_; rintro e w1 ⟨rfl, hx1⟩) | (go_at_call 113; refine (HI.out _ (by repeat (first | with_reducible exact Ext.refl _ | assumption | with_reducible refine Ext.drewN ?_ _ | with_reducible refine Ext.drew ?_ | refine Ext.trans ?_ (by assumption)))).mono ?_; rintro e w2 ⟨rfl, hx2⟩)))
  all_goals go_wp2
  all_goals (refine bodyPost_ret (v := .string (S ++ (⟨#[101]⟩ : ByteArray) ++ E)) ?_ rfl ⟨rfl, ?_⟩)
  all_goals (first | (simp [results, Tryz.results89, go_sem]; done) | (repeat (first | with_reducible exact Ext.refl _ | assumption | with_reducible refine Ext.drewN ?_ _ | with_reducible refine Ext.drew ?_ | refine Ext.trans ?_ (by assumption))))
set_option maxHeartbeats 4000000 in
theorem layout_a2 (k : Int) (q1 : -1000 ≤ k) (q2 : k ≤ 1000) (h : ¬ k < -3) (h2 : k > 9) (d _P S E : ByteArray) (hd0 : 1 ≤ d.size) (hd : d.size ≤ 100) (w : World)
    (T : ∀ w, Calls Tryz.prog 112 #[.string (d.extract 0 1), .string (d.extract 1 d.size)] w fun e w' => e = .returned (.string S) ∧ Ext w w')
    (I : ∀ u, Ext w u → Calls Tryz.prog 113 #[.int .i64 (k - 1)] u fun e w' => e = .returned (.string E) ∧ Ext u w') (hE : E.size ≤ 100) (hS : S.size ≤ 1000) :
    Calls Tryz.prog 89 #[.string d, .int .i64 k] w fun e w' => e = .returned (.string (S ++ (⟨#[101]⟩ : ByteArray) ++ E)) ∧ Ext w w' := by
  have HT := Lib.hid T
  have HI := Lib.hid I
  clear T I
  go_enter Tryz.func89, Tryz.ntmps89
  go_wp2
  go_region_with ((first | (go_at_call 112; refine (HT.out _).mono ?_; rintro e w1 ⟨rfl, hx1⟩) | (go_at_call 113; refine (HI.out _ (by repeat (first | with_reducible exact Ext.refl _ | assumption | with_reducible refine Ext.drewN ?_ _ | with_reducible refine Ext.drew ?_ | refine Ext.trans ?_ (by assumption)))).mono ?_; rintro e w2 ⟨rfl, hx2⟩)))
  all_goals go_wp2
  all_goals (refine bodyPost_ret (v := .string (S ++ (⟨#[101]⟩ : ByteArray) ++ E)) ?_ rfl ⟨rfl, ?_⟩)
  all_goals (first | (simp [results, Tryz.results89, go_sem]; done) | (repeat (first | with_reducible exact Ext.refl _ | assumption | with_reducible refine Ext.drewN ?_ _ | with_reducible refine Ext.drew ?_ | refine Ext.trans ?_ (by assumption))))
theorem layout_c (k : Int) (h1 : ¬ k < -3) (h2 : ¬ k > 9) (h3 : ¬ k < 1) (d P S _E : ByteArray) (hd0 : 1 ≤ d.size) (hd : d.size ≤ 100) (w : World)
    (h4 : (d.size : Int) < k)
    (R : ∀ w, Calls Tryz.prog 114 #[.string (bs [48]), .int .i64 (k - d.size)] w fun e w' => e = .returned (.string P) ∧ Ext w w') (hp : P.size ≤ 100)
    (T : ∀ w, Calls Tryz.prog 112 #[.string (d ++ P), .string ⟨#[]⟩] w fun e w' => e = .returned (.string S) ∧ Ext w w') :
    Calls Tryz.prog 89 #[.string d, .int .i64 k] w fun e w' => e = .returned (.string (S)) ∧ Ext w w' := by
  have HR := Lib.hid R
  have HT := Lib.hid T
  clear R T
  go_enter Tryz.func89, Tryz.ntmps89
  go_wp2_with fail
  refine (HR.out _).mono ?_
  rintro e w1 ⟨rfl, hx1⟩
  go_wp2_with fail
  refine (HT.out _).mono ?_
  rintro e w2 ⟨rfl, hx2⟩
  go_wp2
  refine bodyPost_ret (v := .string (S)) ?_ rfl ⟨rfl, hx1.trans hx2⟩
  simp [results, Tryz.results89, go_sem]

theorem layout_d (k : Int) (h1 : ¬ k < -3) (h2 : ¬ k > 9) (h3 : ¬ k < 1) (d _P S _E : ByteArray) (_hd0 : 1 ≤ d.size) (_hd : d.size ≤ 100) (w : World)
    (h4 : ¬ (d.size : Int) < k)
    (T : ∀ w, Calls Tryz.prog 112 #[.string (d.extract 0 k.toNat), .string (d.extract k.toNat d.size)] w fun e w' => e = .returned (.string S) ∧ Ext w w') :
    Calls Tryz.prog 89 #[.string d, .int .i64 k] w fun e w' => e = .returned (.string (S)) ∧ Ext w w' := by
  have HT := Lib.hid T
  clear T
  go_enter Tryz.func89, Tryz.ntmps89
  go_wp2
  go_region_with (((go_at_call 112; refine (HT.out _).mono ?_; rintro e w1 ⟨rfl, hx1⟩)))
  all_goals go_wp2
  all_goals (refine bodyPost_ret (v := .string (S)) ?_ rfl ⟨rfl, ?_⟩)
  all_goals (first | (simp [results, Tryz.results89, go_sem]; done) | (repeat (first | with_reducible exact Ext.refl _ | assumption | with_reducible refine Ext.drewN ?_ _ | with_reducible refine Ext.drew ?_ | refine Ext.trans ?_ (by assumption))))
end Go.Proofs.YtogfiekbikechaaGreatDoor
