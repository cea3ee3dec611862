/- Layer 2: the reference's Print. -/
import Derived.Test.YtogfiekbikechaaGreatDoorQj
import Derived.Test.YtogfiekbikechaaGreatDoorGs
namespace Go.Proofs.YtogfiekbikechaaGreatDoor
open Go.ChangeShapes Go.WideShapes Go.ChangeAt Go.RowKit

theorem rc_cells (w : World) (m x : Int) (T : TypeId) : (w.alloc (.cells #[.int .i64 m, .int .i64 x] T)).cell? ⟨w.heap.size, 0, none⟩ = some (.int .i64 m) ∧ (w.alloc (.cells #[.int .i64 m, .int .i64 x] T)).cell? ⟨w.heap.size, 1, none⟩ = some (.int .i64 x) := ⟨by simp [go_sem], by simp [go_sem]⟩
set_option maxRecDepth 100000 in
set_option maxHeartbeats 4000000 in
theorem rprint_low1 (m x K k : Int) (D : Nat) (S : ByteArray) (E : ByteArray) (M : Int) (R : ByteArray) (h0 : ¬ m < 0) (h1 : (m == 0) = false) (_h2 : ¬ m = 0) (SHH : Ret 91 #[.agg #[.int .i64 m, .int .i64 x]] (.agg #[.int .i64 (D : Int), .int .i64 K])) (TXH : ∀ w, Calls Tryz.prog 92 #[.int .i64 (D : Int)] w fun e w' => e = .returned (.string S) ∧ Ext w w')
    (s1 : 1 ≤ S.size) (s2 : S.size ≤ 100) (k1 : IntKind.i64.wrap (K + (S.size : Int)) = k) (_k2 : wrap64 (K + (S.size : Int)) = k) (_k3 : -100 ≤ k) (_k4 : k ≤ 100) (c1 : k < -3) (hR : S.extract 1 S.size = R) (_hR2 : R.size ≤ 100) (hM : max (k - 1) (1 - k) = M) (w1 : IntKind.i64.wrap (k - 1) = k - 1) (w2 : IntKind.i64.wrap (1 - k) = 1 - k) (EH : ∀ w, Calls Tryz.prog 92 #[.int .i64 M] w fun e w' => e = .returned (.string E) ∧ Ext w w') (hE : E.size ≤ 100) (r1 : R.toList = []) (_r2 : R.toList.isEmpty = true) (c3 : k - 1 < 0) (w : World) :
    Calls Tryz.prog 48 #[.agg #[.int .i64 m, .int .i64 x]] w fun e w' => e = .returned (.string (S.extract 0 1 ++ (⟨#[46]⟩ : ByteArray) ++ (⟨#[48]⟩ : ByteArray) ++ (⟨#[101]⟩ : ByteArray) ++ ((⟨#[45]⟩ : ByteArray) ++ E))) ∧ Ext w w' := by
  have HSH := Lib.hid SHH; have HTX := Lib.hid TXH; clear SHH TXH
  have zl : (⟨#[]⟩ : ByteArray).toList = [] := by rw [Lib.toList_data]
  have zs : (⟨#[]⟩ : ByteArray).size = 0 := rfl
  have HE := Lib.hid EH; clear EH
  go_enter Tryz.func48, Tryz.ntmps48
  go_upto_region 5 with (fail)
  obtain ⟨v0, v1⟩ := rc_cells w m x 23
  go_wp2_with fail
  refine (HSH.out _).mono ?_
  rintro e w1 ⟨rfl, hx⟩
  clear v0 v1
  have X1 := Lib.hid ((((Ext.refl w).alloc (.cells #[.int .i64 m, .int .i64 x] 23)).trans hx).alloc (.cells #[.int .i64 (D : Int), .int .i64 K] 102))
  have RB : Hid (Rc (w1.alloc (.cells #[.int .i64 (D : Int), .int .i64 K] 102)) w1.heap.size (D : Int) K) := Lib.hid (rc_new _ _ _ _)
  clear hx
  go_upto_region 6 with (fail)
  generalize w1.alloc (.cells #[.int .i64 (D : Int), .int .i64 K] 102) = W1 at *
  generalize w1.heap.size = b1 at *
  have d0 := RB.out.c0
  go_wp2_with fail
  refine (HTX.out _).mono ?_
  rintro e w2 ⟨rfl, hx⟩
  have X2 := Lib.hid (X1.out.trans hx)
  have d1 := (RB.out.later hx).c1
  clear hx d0 RB X1
  go_upto_region 8 with (fail)
  clear d1
  go_wp2_with fail
  refine (HE.out _).mono ?_
  rintro e w3 ⟨rfl, hx⟩
  have X3 := Lib.hid (X2.out.trans hx); clear hx X2
  go_wp2
  refine bodyPost_ret (v := .string (S.extract 0 1 ++ (⟨#[46]⟩ : ByteArray) ++ (⟨#[48]⟩ : ByteArray) ++ (⟨#[101]⟩ : ByteArray) ++ ((⟨#[45]⟩ : ByteArray) ++ E))) ?_ rfl ⟨rfl, X3.out⟩
  simp [results, Tryz.results48, go_sem]
set_option maxRecDepth 100000 in
set_option maxHeartbeats 4000000 in
theorem rprint_low2 (m x K k : Int) (D : Nat) (S : ByteArray) (E : ByteArray) (M : Int) (R : ByteArray) (h0 : ¬ m < 0) (h1 : (m == 0) = false) (_h2 : ¬ m = 0) (SHH : Ret 91 #[.agg #[.int .i64 m, .int .i64 x]] (.agg #[.int .i64 (D : Int), .int .i64 K])) (TXH : ∀ w, Calls Tryz.prog 92 #[.int .i64 (D : Int)] w fun e w' => e = .returned (.string S) ∧ Ext w w')
    (s1 : 1 ≤ S.size) (s2 : S.size ≤ 100) (k1 : IntKind.i64.wrap (K + (S.size : Int)) = k) (_k2 : wrap64 (K + (S.size : Int)) = k) (_k3 : -100 ≤ k) (_k4 : k ≤ 100) (c1 : k < -3) (hR : S.extract 1 S.size = R) (hR2 : R.size ≤ 100) (hM : max (k - 1) (1 - k) = M) (w1 : IntKind.i64.wrap (k - 1) = k - 1) (w2 : IntKind.i64.wrap (1 - k) = 1 - k) (EH : ∀ w, Calls Tryz.prog 92 #[.int .i64 M] w fun e w' => e = .returned (.string E) ∧ Ext w w') (hE : E.size ≤ 100) (_r1 : ¬ R.toList = []) (r2 : R.toList.isEmpty = false) (c3 : k - 1 < 0) (w : World) :
    Calls Tryz.prog 48 #[.agg #[.int .i64 m, .int .i64 x]] w fun e w' => e = .returned (.string (S.extract 0 1 ++ (⟨#[46]⟩ : ByteArray) ++ R ++ (⟨#[101]⟩ : ByteArray) ++ ((⟨#[45]⟩ : ByteArray) ++ E))) ∧ Ext w w' := by
  have HSH := Lib.hid SHH; have HTX := Lib.hid TXH; clear SHH TXH
  have zl : (⟨#[]⟩ : ByteArray).toList = [] := by rw [Lib.toList_data]
  have zs : (⟨#[]⟩ : ByteArray).size = 0 := rfl
  have HE := Lib.hid EH; clear EH
  go_enter Tryz.func48, Tryz.ntmps48
  go_upto_region 5 with (fail)
  obtain ⟨v0, v1⟩ := rc_cells w m x 23
  go_wp2_with fail
  refine (HSH.out _).mono ?_
  rintro e w1 ⟨rfl, hx⟩
  clear v0 v1
  have X1 := Lib.hid ((((Ext.refl w).alloc (.cells #[.int .i64 m, .int .i64 x] 23)).trans hx).alloc (.cells #[.int .i64 (D : Int), .int .i64 K] 102))
  have RB : Hid (Rc (w1.alloc (.cells #[.int .i64 (D : Int), .int .i64 K] 102)) w1.heap.size (D : Int) K) := Lib.hid (rc_new _ _ _ _)
  clear hx
  go_upto_region 6 with (fail)
  generalize w1.alloc (.cells #[.int .i64 (D : Int), .int .i64 K] 102) = W1 at *
  generalize w1.heap.size = b1 at *
  have d0 := RB.out.c0
  go_wp2_with fail
  refine (HTX.out _).mono ?_
  rintro e w2 ⟨rfl, hx⟩
  have X2 := Lib.hid (X1.out.trans hx)
  have d1 := (RB.out.later hx).c1
  clear hx d0 RB X1
  go_upto_region 8 with (fail)
  clear d1
  go_wp2_with fail
  refine (HE.out _).mono ?_
  rintro e w3 ⟨rfl, hx⟩
  have X3 := Lib.hid (X2.out.trans hx); clear hx X2
  go_wp2
  refine bodyPost_ret (v := .string (S.extract 0 1 ++ (⟨#[46]⟩ : ByteArray) ++ R ++ (⟨#[101]⟩ : ByteArray) ++ ((⟨#[45]⟩ : ByteArray) ++ E))) ?_ rfl ⟨rfl, X3.out⟩
  simp [results, Tryz.results48, go_sem]
set_option maxRecDepth 100000 in
set_option maxHeartbeats 4000000 in
theorem rprint_high1 (m x K k : Int) (D : Nat) (S : ByteArray) (E : ByteArray) (M : Int) (R : ByteArray) (h0 : ¬ m < 0) (h1 : (m == 0) = false) (_h2 : ¬ m = 0) (SHH : Ret 91 #[.agg #[.int .i64 m, .int .i64 x]] (.agg #[.int .i64 (D : Int), .int .i64 K])) (TXH : ∀ w, Calls Tryz.prog 92 #[.int .i64 (D : Int)] w fun e w' => e = .returned (.string S) ∧ Ext w w')
    (s1 : 1 ≤ S.size) (s2 : S.size ≤ 100) (k1 : IntKind.i64.wrap (K + (S.size : Int)) = k) (k2 : wrap64 (K + (S.size : Int)) = k) (k3 : -100 ≤ k) (k4 : k ≤ 100) (c1 : ¬ k < -3) (c2 : k > 9) (hR : S.extract 1 S.size = R) (_hR2 : R.size ≤ 100) (hM : max (k - 1) (1 - k) = M) (w1 : IntKind.i64.wrap (k - 1) = k - 1) (w2 : IntKind.i64.wrap (1 - k) = 1 - k) (EH : ∀ w, Calls Tryz.prog 92 #[.int .i64 M] w fun e w' => e = .returned (.string E) ∧ Ext w w') (hE : E.size ≤ 100) (r1 : R.toList = []) (_r2 : R.toList.isEmpty = true) (_c3 : ¬ k - 1 < 0) (w : World) :
    Calls Tryz.prog 48 #[.agg #[.int .i64 m, .int .i64 x]] w fun e w' => e = .returned (.string (S.extract 0 1 ++ (⟨#[46]⟩ : ByteArray) ++ (⟨#[48]⟩ : ByteArray) ++ (⟨#[101]⟩ : ByteArray) ++ E)) ∧ Ext w w' := by
  have HSH := Lib.hid SHH; have HTX := Lib.hid TXH; clear SHH TXH
  have zl : (⟨#[]⟩ : ByteArray).toList = [] := by rw [Lib.toList_data]
  have zs : (⟨#[]⟩ : ByteArray).size = 0 := rfl
  have HE := Lib.hid EH; clear EH
  go_enter Tryz.func48, Tryz.ntmps48
  go_upto_region 5 with (fail)
  obtain ⟨v0, v1⟩ := rc_cells w m x 23
  go_wp2_with fail
  refine (HSH.out _).mono ?_
  rintro e w1 ⟨rfl, hx⟩
  clear v0 v1
  have X1 := Lib.hid ((((Ext.refl w).alloc (.cells #[.int .i64 m, .int .i64 x] 23)).trans hx).alloc (.cells #[.int .i64 (D : Int), .int .i64 K] 102))
  have RB : Hid (Rc (w1.alloc (.cells #[.int .i64 (D : Int), .int .i64 K] 102)) w1.heap.size (D : Int) K) := Lib.hid (rc_new _ _ _ _)
  clear hx
  go_upto_region 6 with (fail)
  generalize w1.alloc (.cells #[.int .i64 (D : Int), .int .i64 K] 102) = W1 at *
  generalize w1.heap.size = b1 at *
  have d0 := RB.out.c0
  go_wp2_with fail
  refine (HTX.out _).mono ?_
  rintro e w2 ⟨rfl, hx⟩
  have X2 := Lib.hid (X1.out.trans hx)
  have d1 := (RB.out.later hx).c1
  clear hx d0 RB X1
  go_upto_region 8 with (fail)
  clear d1
  go_wp2_with fail
  refine (HE.out _).mono ?_
  rintro e w3 ⟨rfl, hx⟩
  have X3 := Lib.hid (X2.out.trans hx); clear hx X2
  go_wp2
  refine bodyPost_ret (v := .string (S.extract 0 1 ++ (⟨#[46]⟩ : ByteArray) ++ (⟨#[48]⟩ : ByteArray) ++ (⟨#[101]⟩ : ByteArray) ++ E)) ?_ rfl ⟨rfl, X3.out⟩
  simp [results, Tryz.results48, go_sem]
set_option maxRecDepth 100000 in
set_option maxHeartbeats 4000000 in
theorem rprint_high2 (m x K k : Int) (D : Nat) (S : ByteArray) (E : ByteArray) (M : Int) (R : ByteArray) (h0 : ¬ m < 0) (h1 : (m == 0) = false) (_h2 : ¬ m = 0) (SHH : Ret 91 #[.agg #[.int .i64 m, .int .i64 x]] (.agg #[.int .i64 (D : Int), .int .i64 K])) (TXH : ∀ w, Calls Tryz.prog 92 #[.int .i64 (D : Int)] w fun e w' => e = .returned (.string S) ∧ Ext w w')
    (s1 : 1 ≤ S.size) (s2 : S.size ≤ 100) (k1 : IntKind.i64.wrap (K + (S.size : Int)) = k) (k2 : wrap64 (K + (S.size : Int)) = k) (k3 : -100 ≤ k) (k4 : k ≤ 100) (c1 : ¬ k < -3) (c2 : k > 9) (hR : S.extract 1 S.size = R) (hR2 : R.size ≤ 100) (hM : max (k - 1) (1 - k) = M) (w1 : IntKind.i64.wrap (k - 1) = k - 1) (w2 : IntKind.i64.wrap (1 - k) = 1 - k) (EH : ∀ w, Calls Tryz.prog 92 #[.int .i64 M] w fun e w' => e = .returned (.string E) ∧ Ext w w') (hE : E.size ≤ 100) (_r1 : ¬ R.toList = []) (r2 : R.toList.isEmpty = false) (_c3 : ¬ k - 1 < 0) (w : World) :
    Calls Tryz.prog 48 #[.agg #[.int .i64 m, .int .i64 x]] w fun e w' => e = .returned (.string (S.extract 0 1 ++ (⟨#[46]⟩ : ByteArray) ++ R ++ (⟨#[101]⟩ : ByteArray) ++ E)) ∧ Ext w w' := by
  have HSH := Lib.hid SHH; have HTX := Lib.hid TXH; clear SHH TXH
  have zl : (⟨#[]⟩ : ByteArray).toList = [] := by rw [Lib.toList_data]
  have zs : (⟨#[]⟩ : ByteArray).size = 0 := rfl
  have HE := Lib.hid EH; clear EH
  go_enter Tryz.func48, Tryz.ntmps48
  go_upto_region 5 with (fail)
  obtain ⟨v0, v1⟩ := rc_cells w m x 23
  go_wp2_with fail
  refine (HSH.out _).mono ?_
  rintro e w1 ⟨rfl, hx⟩
  clear v0 v1
  have X1 := Lib.hid ((((Ext.refl w).alloc (.cells #[.int .i64 m, .int .i64 x] 23)).trans hx).alloc (.cells #[.int .i64 (D : Int), .int .i64 K] 102))
  have RB : Hid (Rc (w1.alloc (.cells #[.int .i64 (D : Int), .int .i64 K] 102)) w1.heap.size (D : Int) K) := Lib.hid (rc_new _ _ _ _)
  clear hx
  go_upto_region 6 with (fail)
  generalize w1.alloc (.cells #[.int .i64 (D : Int), .int .i64 K] 102) = W1 at *
  generalize w1.heap.size = b1 at *
  have d0 := RB.out.c0
  go_wp2_with fail
  refine (HTX.out _).mono ?_
  rintro e w2 ⟨rfl, hx⟩
  have X2 := Lib.hid (X1.out.trans hx)
  have d1 := (RB.out.later hx).c1
  clear hx d0 RB X1
  go_upto_region 8 with (fail)
  clear d1
  go_wp2_with fail
  refine (HE.out _).mono ?_
  rintro e w3 ⟨rfl, hx⟩
  have X3 := Lib.hid (X2.out.trans hx); clear hx X2
  go_wp2
  refine bodyPost_ret (v := .string (S.extract 0 1 ++ (⟨#[46]⟩ : ByteArray) ++ R ++ (⟨#[101]⟩ : ByteArray) ++ E)) ?_ rfl ⟨rfl, X3.out⟩
  simp [results, Tryz.results48, go_sem]
set_option maxRecDepth 100000 in
set_option maxHeartbeats 4000000 in
theorem rprint_small (m x K k : Int) (D : Nat) (S : ByteArray) (Z : ByteArray) (h0 : ¬ m < 0) (h1 : (m == 0) = false) (_h2 : ¬ m = 0) (SHH : Ret 91 #[.agg #[.int .i64 m, .int .i64 x]] (.agg #[.int .i64 (D : Int), .int .i64 K])) (TXH : ∀ w, Calls Tryz.prog 92 #[.int .i64 (D : Int)] w fun e w' => e = .returned (.string S) ∧ Ext w w')
    (s1 : 1 ≤ S.size) (s2 : S.size ≤ 100) (k1 : IntKind.i64.wrap (K + (S.size : Int)) = k) (k2 : wrap64 (K + (S.size : Int)) = k) (k3 : -100 ≤ k) (k4 : k ≤ 100) (c1 : ¬ k < -3) (_c2 : ¬ k > 9) (c3 : k < 1) (w1 : IntKind.i64.wrap (0 - k) = -k) (w2 : wrap64 (0 - k) = -k) (ZH : ∀ w, Calls Tryz.prog 93 #[.int .i64 (-k)] w fun e w' => e = .returned (.string Z) ∧ Ext w w') (hZ : Z.size ≤ 300) (w : World) :
    Calls Tryz.prog 48 #[.agg #[.int .i64 m, .int .i64 x]] w fun e w' => e = .returned (.string ((⟨#[48, 46]⟩ : ByteArray) ++ Z ++ S)) ∧ Ext w w' := by
  have HSH := Lib.hid SHH; have HTX := Lib.hid TXH; clear SHH TXH
  have zl : (⟨#[]⟩ : ByteArray).toList = [] := by rw [Lib.toList_data]
  have zs : (⟨#[]⟩ : ByteArray).size = 0 := rfl
  have HZ := Lib.hid ZH; clear ZH
  go_enter Tryz.func48, Tryz.ntmps48
  go_upto_region 5 with (fail)
  obtain ⟨v0, v1⟩ := rc_cells w m x 23
  go_wp2_with fail
  refine (HSH.out _).mono ?_
  rintro e w1 ⟨rfl, hx⟩
  clear v0 v1
  have X1 := Lib.hid ((((Ext.refl w).alloc (.cells #[.int .i64 m, .int .i64 x] 23)).trans hx).alloc (.cells #[.int .i64 (D : Int), .int .i64 K] 102))
  have RB : Hid (Rc (w1.alloc (.cells #[.int .i64 (D : Int), .int .i64 K] 102)) w1.heap.size (D : Int) K) := Lib.hid (rc_new _ _ _ _)
  clear hx
  go_upto_region 6 with (fail)
  generalize w1.alloc (.cells #[.int .i64 (D : Int), .int .i64 K] 102) = W1 at *
  generalize w1.heap.size = b1 at *
  have d0 := RB.out.c0
  go_wp2_with fail
  refine (HTX.out _).mono ?_
  rintro e w2 ⟨rfl, hx⟩
  have X2 := Lib.hid (X1.out.trans hx)
  have d1 := (RB.out.later hx).c1
  clear hx d0 RB X1
  go_upto_region 8 with (fail)
  clear d1
  go_wp2_with fail
  refine (HZ.out _).mono ?_
  rintro e w3 ⟨rfl, hx⟩
  have X3 := Lib.hid (X2.out.trans hx); clear hx X2
  go_wp2
  refine bodyPost_ret (v := .string ((⟨#[48, 46]⟩ : ByteArray) ++ Z ++ S)) ?_ rfl ⟨rfl, X3.out⟩
  simp [results, Tryz.results48, go_sem]
set_option maxRecDepth 100000 in
set_option maxHeartbeats 4000000 in
theorem rprint_int (m x K k : Int) (D : Nat) (S : ByteArray) (Z : ByteArray) (q : Int) (h0 : ¬ m < 0) (h1 : (m == 0) = false) (_h2 : ¬ m = 0) (SHH : Ret 91 #[.agg #[.int .i64 m, .int .i64 x]] (.agg #[.int .i64 (D : Int), .int .i64 K])) (TXH : ∀ w, Calls Tryz.prog 92 #[.int .i64 (D : Int)] w fun e w' => e = .returned (.string S) ∧ Ext w w')
    (s1 : 1 ≤ S.size) (s2 : S.size ≤ 100) (k1 : IntKind.i64.wrap (K + (S.size : Int)) = k) (k2 : wrap64 (K + (S.size : Int)) = k) (k3 : -100 ≤ k) (k4 : k ≤ 100) (c1 : ¬ k < -3) (c2 : ¬ k > 9) (c3 : ¬ k < 1) (c4 : (S.size : Int) ≤ k) (w1 : IntKind.i64.wrap (k - (S.size : Int)) = q) (_w2 : wrap64 (k - (S.size : Int)) = q) (ZH : ∀ w, Calls Tryz.prog 93 #[.int .i64 q] w fun e w' => e = .returned (.string Z) ∧ Ext w w') (hZ : Z.size ≤ 300) (w : World) :
    Calls Tryz.prog 48 #[.agg #[.int .i64 m, .int .i64 x]] w fun e w' => e = .returned (.string (S ++ Z ++ (⟨#[46, 48]⟩ : ByteArray))) ∧ Ext w w' := by
  have HSH := Lib.hid SHH; have HTX := Lib.hid TXH; clear SHH TXH
  have zl : (⟨#[]⟩ : ByteArray).toList = [] := by rw [Lib.toList_data]
  have zs : (⟨#[]⟩ : ByteArray).size = 0 := rfl
  have HZ := Lib.hid ZH; clear ZH
  go_enter Tryz.func48, Tryz.ntmps48
  go_upto_region 5 with (fail)
  obtain ⟨v0, v1⟩ := rc_cells w m x 23
  go_wp2_with fail
  refine (HSH.out _).mono ?_
  rintro e w1 ⟨rfl, hx⟩
  clear v0 v1
  have X1 := Lib.hid ((((Ext.refl w).alloc (.cells #[.int .i64 m, .int .i64 x] 23)).trans hx).alloc (.cells #[.int .i64 (D : Int), .int .i64 K] 102))
  have RB : Hid (Rc (w1.alloc (.cells #[.int .i64 (D : Int), .int .i64 K] 102)) w1.heap.size (D : Int) K) := Lib.hid (rc_new _ _ _ _)
  clear hx
  go_upto_region 6 with (fail)
  generalize w1.alloc (.cells #[.int .i64 (D : Int), .int .i64 K] 102) = W1 at *
  generalize w1.heap.size = b1 at *
  have d0 := RB.out.c0
  go_wp2_with fail
  refine (HTX.out _).mono ?_
  rintro e _w2 ⟨rfl, hx⟩
  have X2 := Lib.hid (X1.out.trans hx)
  have d1 := (RB.out.later hx).c1
  clear hx d0 RB X1
  go_upto_region 8 with (fail)
  clear d1
  go_wp2_with fail
  refine (HZ.out _).mono ?_
  rintro e w3 ⟨rfl, hx⟩
  have X3 := Lib.hid (X2.out.trans hx); clear hx X2
  go_wp2
  refine bodyPost_ret (v := .string (S ++ Z ++ (⟨#[46, 48]⟩ : ByteArray))) ?_ rfl ⟨rfl, X3.out⟩
  simp [results, Tryz.results48, go_sem]
set_option maxRecDepth 100000 in
set_option maxHeartbeats 4000000 in
theorem rprint_mid (m x K k : Int) (D : Nat) (S : ByteArray) (kn : Nat) (h0 : ¬ m < 0) (h1 : (m == 0) = false) (_h2 : ¬ m = 0) (SHH : Ret 91 #[.agg #[.int .i64 m, .int .i64 x]] (.agg #[.int .i64 (D : Int), .int .i64 K])) (TXH : ∀ w, Calls Tryz.prog 92 #[.int .i64 (D : Int)] w fun e w' => e = .returned (.string S) ∧ Ext w w')
    (s1 : 1 ≤ S.size) (s2 : S.size ≤ 100) (k1 : IntKind.i64.wrap (K + (S.size : Int)) = k) (k2 : wrap64 (K + (S.size : Int)) = k) (k3 : -100 ≤ k) (k4 : k ≤ 100) (hk : k = (kn : Int)) (c1 : ¬ (kn : Int) < -3) (c2 : ¬ (kn : Int) > 9) (c3 : ¬ (kn : Int) < 1) (c4 : ¬ (S.size : Int) ≤ (kn : Int)) (c5 : kn ≤ S.size) (w : World) :
    Calls Tryz.prog 48 #[.agg #[.int .i64 m, .int .i64 x]] w fun e w' => e = .returned (.string (S.extract 0 kn ++ (⟨#[46]⟩ : ByteArray) ++ S.extract kn S.size)) ∧ Ext w w' := by
  have HSH := Lib.hid SHH; have HTX := Lib.hid TXH; clear SHH TXH
  have zl : (⟨#[]⟩ : ByteArray).toList = [] := by rw [Lib.toList_data]
  have zs : (⟨#[]⟩ : ByteArray).size = 0 := rfl
  subst hk
  go_enter Tryz.func48, Tryz.ntmps48
  go_upto_region 5 with (fail)
  obtain ⟨v0, v1⟩ := rc_cells w m x 23
  go_wp2_with fail
  refine (HSH.out _).mono ?_
  rintro e w1 ⟨rfl, hx⟩
  clear v0 v1
  have X1 := Lib.hid ((((Ext.refl w).alloc (.cells #[.int .i64 m, .int .i64 x] 23)).trans hx).alloc (.cells #[.int .i64 (D : Int), .int .i64 K] 102))
  have RB : Hid (Rc (w1.alloc (.cells #[.int .i64 (D : Int), .int .i64 K] 102)) w1.heap.size (D : Int) K) := Lib.hid (rc_new _ _ _ _)
  clear hx
  go_upto_region 6 with (fail)
  generalize w1.alloc (.cells #[.int .i64 (D : Int), .int .i64 K] 102) = W1 at *
  generalize w1.heap.size = b1 at *
  have d0 := RB.out.c0
  go_wp2_with fail
  refine (HTX.out _).mono ?_
  rintro e w2 ⟨rfl, hx⟩
  have X2 := Lib.hid (X1.out.trans hx)
  have d1 := (RB.out.later hx).c1
  clear hx d0 RB X1
  go_upto_region 8 with (fail)
  clear d1
  go_upto_region 20 with (fail)
  go_quiet (go_simp)
  go_wp2
  refine bodyPost_ret (v := .string (S.extract 0 kn ++ (⟨#[46]⟩ : ByteArray) ++ S.extract kn S.size)) ?_ rfl ⟨rfl, X2.out.drewN _⟩
  simp [results, Tryz.results48, go_sem]
set_option maxRecDepth 100000 in
set_option maxHeartbeats 4000000 in
theorem rprint_neg (m x M : Int) (S : ByteArray) (h0 : m < 0) (hs : S.size ≤ 1000) (HN : Ret 25 #[.agg #[.int .i64 m, .int .i64 x]] (.agg #[.int .i64 M, .int .i64 x])) (HP : ∀ w, Calls Tryz.prog 48 #[.agg #[.int .i64 M, .int .i64 x]] w fun e w' => e = .returned (.string S) ∧ Ext w w') (w : World) :
    Calls Tryz.prog 48 #[.agg #[.int .i64 m, .int .i64 x]] w fun e w' => e = .returned (.string ((⟨#[45]⟩ : ByteArray) ++ S)) ∧ Ext w w' := by
  have HNN := Lib.hid HN; have HPP := Lib.hid HP; clear HN HP
  go_enter Tryz.func48, Tryz.ntmps48
  go_wp2_with fail
  refine (HNN.out _).mono ?_
  rintro e w1 ⟨rfl, hx⟩
  have X1 := Lib.hid (((Ext.refl w).alloc (.cells #[.int .i64 m, .int .i64 x] 23)).trans hx); clear hx
  go_wp2_with fail
  refine (HPP.out _).mono ?_
  rintro e w2 ⟨rfl, hx⟩
  have X2 := Lib.hid (X1.out.trans hx); clear hx X1
  go_wp2
  refine bodyPost_ret (v := .string ((⟨#[45]⟩ : ByteArray) ++ S)) ?_ rfl ⟨rfl, X2.out⟩
  simp [results, Tryz.results48, go_sem]
set_option maxRecDepth 100000 in
set_option maxHeartbeats 4000000 in
theorem rprint_zero (x : Int) (w : World) :
    Calls Tryz.prog 48 #[.agg #[.int .i64 0, .int .i64 x]] w fun e w' => e = .returned (.string (bs [48, 46, 48])) ∧ Ext w w' := by
  go_enter Tryz.func48, Tryz.ntmps48
  go_wp2
  refine bodyPost_ret (v := .string (bs [48, 46, 48])) ?_ rfl ⟨rfl, (Ext.refl w).alloc _⟩
  simp [results, Tryz.results48, go_sem, bs]
end Go.Proofs.YtogfiekbikechaaGreatDoor
