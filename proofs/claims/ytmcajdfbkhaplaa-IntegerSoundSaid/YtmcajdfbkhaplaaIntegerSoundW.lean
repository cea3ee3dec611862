/- The walk of IntegerSound. -/
import Derived.Test.YtmcajdfbkhaplaaSf
import Derived.Test.YtmcajdfbkhaplaaSk
namespace Go.Proofs.Ytmcajdfbkhaplaa.integerSound
open Go.RowKit
set_option maxRecDepth 100000 in
set_option maxHeartbeats 40000000 in
theorem main (a0 a0' a1 a1' a2 a3 : Int) (w : World) (v1 : spB a0 a0' = true) (v2 : spB a1 a1' = true) (m1 : inB a2 a0 a0' = true) (m2 : inB a3 a1 a1' = true) :
    Calls Try.prog 13 #[.agg #[.int .i64 a0, .int .i64 a0'], .agg #[.int .i64 a1, .int .i64 a1'], .int .i64 a2, .int .i64 a3] w fun e w' => e = .returned (.bool true) ∧ Ext w w' := by
  have HA := Lib.hid (held_add v1 v2 m1 m2)
  have HS := Lib.hid (held_sub v1 v2 m1 m2)
  have HM := Lib.hid (held_mul v1 v2 m1 m2)
  have HQ := Lib.hid (held_quo v1 v2 m1 m2)
  have n1 : oneE a2 = 0 := by simp [oneE, mem_ok v1 m1]
  have n2 : negE a0 a0' = 0 := by simp [negE, v1]
  have n3 : inB (negV a2) (negL a0 a0') (negH a0 a0') = true := by simp only [negV, negL, negH, mem_ok v1 m1, v1, if_true]; exact neg_in m1
  have n4 : twoE a2 a3 = 0 := by simp [twoE, mem_ok v1 m1, mem_ok v2 m2]
  have n5 : oneS (spB a0 a0' && spB a1 a1') = 0 := by simp [oneS, v1, v2]
  have n6 : inB (cmpV a2 a3) (twoS (spB a0 a0' && spB a1 a1') (cmpI a0 a1')) (twoS (spB a0 a0' && spB a1 a1') (cmpI a0' a1)) = true := by simp only [cmpV, twoS, v1, v2, mem_ok v1 m1, mem_ok v2 m2, Bool.and_self, if_true]; exact cmp_in m1 m2
  have V1 := Lib.hid v1
  have V2 := Lib.hid v2
  have M1 := Lib.hid m1
  have M2 := Lib.hid m2
  have N3 := Lib.hid n3
  have N4 := Lib.hid n4
  have N5 := Lib.hid n5
  have N6 := Lib.hid n6
  clear v1 v2 m1 m2 n3 n4 n5 n6
  go_enter Try.func13, Try.ntmps13
  go_wp2_with fail
  refine (wide_any _).mono ?_
  rintro e w1 ⟨rfl, hx1⟩
  have s1 := hx1.size
  try simp at s1
  have c1 : w1.cell? ⟨w.heap.size, 0, none⟩ = some (.int .i64 a0) := (hx1.cell 0 (by first | (simp; done) | (simp; omega) | omega)).trans (by first | assumption | (simp [go_sem]; done) | exact ((((Ext.refl _).alloc _).cell _ (by omega)).trans (by assumption)) | (simp [go_sem, *]; done))
  have c2 : w1.cell? ⟨w.heap.size, 1, none⟩ = some (.int .i64 a0') := (hx1.cell 1 (by first | (simp; done) | (simp; omega) | omega)).trans (by first | assumption | (simp [go_sem]; done) | exact ((((Ext.refl _).alloc _).cell _ (by omega)).trans (by assumption)) | (simp [go_sem, *]; done))
  have c3 : w1.cell? ⟨w.heap.size + 1, 0, none⟩ = some (.int .i64 a1) := (hx1.cell 0 (by first | (simp; done) | (simp; omega) | omega)).trans (by first | assumption | (simp [go_sem]; done) | exact ((((Ext.refl _).alloc _).cell _ (by omega)).trans (by assumption)) | (simp [go_sem, *]; done))
  have c4 : w1.cell? ⟨w.heap.size + 1, 1, none⟩ = some (.int .i64 a1') := (hx1.cell 1 (by first | (simp; done) | (simp; omega) | omega)).trans (by first | assumption | (simp [go_sem]; done) | exact ((((Ext.refl _).alloc _).cell _ (by omega)).trans (by assumption)) | (simp [go_sem, *]; done))
  go_wp2_with fail
  refine (validSpan_any a0 a0' _).mono ?_
  rintro e w2 ⟨rfl, hx2⟩
  rw [V1.out]
  have s2 := hx2.size
  try simp at s2
  have c5 : w2.cell? ⟨w.heap.size, 0, none⟩ = some (.int .i64 a0) := (hx2.cell 0 (by first | (simp; done) | (simp; omega) | omega)).trans (by first | assumption | (simp [go_sem]; done) | exact ((((Ext.refl _).alloc _).cell _ (by omega)).trans (by assumption)) | (simp [go_sem, *]; done))
  have c6 : w2.cell? ⟨w.heap.size, 1, none⟩ = some (.int .i64 a0') := (hx2.cell 1 (by first | (simp; done) | (simp; omega) | omega)).trans (by first | assumption | (simp [go_sem]; done) | exact ((((Ext.refl _).alloc _).cell _ (by omega)).trans (by assumption)) | (simp [go_sem, *]; done))
  have c7 : w2.cell? ⟨w.heap.size + 1, 0, none⟩ = some (.int .i64 a1) := (hx2.cell 0 (by first | (simp; done) | (simp; omega) | omega)).trans (by first | assumption | (simp [go_sem]; done) | exact ((((Ext.refl _).alloc _).cell _ (by omega)).trans (by assumption)) | (simp [go_sem, *]; done))
  have c8 : w2.cell? ⟨w.heap.size + 1, 1, none⟩ = some (.int .i64 a1') := (hx2.cell 1 (by first | (simp; done) | (simp; omega) | omega)).trans (by first | assumption | (simp [go_sem]; done) | exact ((((Ext.refl _).alloc _).cell _ (by omega)).trans (by assumption)) | (simp [go_sem, *]; done))
  clear c1 c2 c3 c4
  go_wp2_with fail
  refine (validSpan_any a1 a1' _).mono ?_
  rintro e w3 ⟨rfl, hx3⟩
  rw [V2.out]
  have s3 := hx3.size
  try simp at s3
  have c9 : w3.cell? ⟨w.heap.size, 0, none⟩ = some (.int .i64 a0) := (hx3.cell 0 (by first | (simp; done) | (simp; omega) | omega)).trans (by first | assumption | (simp [go_sem]; done) | exact ((((Ext.refl _).alloc _).cell _ (by omega)).trans (by assumption)) | (simp [go_sem, *]; done))
  have c10 : w3.cell? ⟨w.heap.size, 1, none⟩ = some (.int .i64 a0') := (hx3.cell 1 (by first | (simp; done) | (simp; omega) | omega)).trans (by first | assumption | (simp [go_sem]; done) | exact ((((Ext.refl _).alloc _).cell _ (by omega)).trans (by assumption)) | (simp [go_sem, *]; done))
  have c11 : w3.cell? ⟨w.heap.size + 1, 0, none⟩ = some (.int .i64 a1) := (hx3.cell 0 (by first | (simp; done) | (simp; omega) | omega)).trans (by first | assumption | (simp [go_sem]; done) | exact ((((Ext.refl _).alloc _).cell _ (by omega)).trans (by assumption)) | (simp [go_sem, *]; done))
  have c12 : w3.cell? ⟨w.heap.size + 1, 1, none⟩ = some (.int .i64 a1') := (hx3.cell 1 (by first | (simp; done) | (simp; omega) | omega)).trans (by first | assumption | (simp [go_sem]; done) | exact ((((Ext.refl _).alloc _).cell _ (by omega)).trans (by assumption)) | (simp [go_sem, *]; done))
  clear c5 c6 c7 c8
  go_wp2_with fail
  refine (in_any a2 a0 a0' _).mono ?_
  rintro e w4 ⟨rfl, hx4⟩
  rw [M1.out]
  have s4 := hx4.size
  try simp at s4
  have c13 : w4.cell? ⟨w.heap.size, 0, none⟩ = some (.int .i64 a0) := (hx4.cell 0 (by first | (simp; done) | (simp; omega) | omega)).trans (by first | assumption | (simp [go_sem]; done) | exact ((((Ext.refl _).alloc _).cell _ (by omega)).trans (by assumption)) | (simp [go_sem, *]; done))
  have c14 : w4.cell? ⟨w.heap.size, 1, none⟩ = some (.int .i64 a0') := (hx4.cell 1 (by first | (simp; done) | (simp; omega) | omega)).trans (by first | assumption | (simp [go_sem]; done) | exact ((((Ext.refl _).alloc _).cell _ (by omega)).trans (by assumption)) | (simp [go_sem, *]; done))
  have c15 : w4.cell? ⟨w.heap.size + 1, 0, none⟩ = some (.int .i64 a1) := (hx4.cell 0 (by first | (simp; done) | (simp; omega) | omega)).trans (by first | assumption | (simp [go_sem]; done) | exact ((((Ext.refl _).alloc _).cell _ (by omega)).trans (by assumption)) | (simp [go_sem, *]; done))
  have c16 : w4.cell? ⟨w.heap.size + 1, 1, none⟩ = some (.int .i64 a1') := (hx4.cell 1 (by first | (simp; done) | (simp; omega) | omega)).trans (by first | assumption | (simp [go_sem]; done) | exact ((((Ext.refl _).alloc _).cell _ (by omega)).trans (by assumption)) | (simp [go_sem, *]; done))
  clear c9 c10 c11 c12
  go_wp2_with fail
  refine (in_any a3 a1 a1' _).mono ?_
  rintro e w5 ⟨rfl, hx5⟩
  rw [M2.out]
  have s5 := hx5.size
  try simp at s5
  have c17 : w5.cell? ⟨w.heap.size, 0, none⟩ = some (.int .i64 a0) := (hx5.cell 0 (by first | (simp; done) | (simp; omega) | omega)).trans (by first | assumption | (simp [go_sem]; done) | exact ((((Ext.refl _).alloc _).cell _ (by omega)).trans (by assumption)) | (simp [go_sem, *]; done))
  have c18 : w5.cell? ⟨w.heap.size, 1, none⟩ = some (.int .i64 a0') := (hx5.cell 1 (by first | (simp; done) | (simp; omega) | omega)).trans (by first | assumption | (simp [go_sem]; done) | exact ((((Ext.refl _).alloc _).cell _ (by omega)).trans (by assumption)) | (simp [go_sem, *]; done))
  have c19 : w5.cell? ⟨w.heap.size + 1, 0, none⟩ = some (.int .i64 a1) := (hx5.cell 0 (by first | (simp; done) | (simp; omega) | omega)).trans (by first | assumption | (simp [go_sem]; done) | exact ((((Ext.refl _).alloc _).cell _ (by omega)).trans (by assumption)) | (simp [go_sem, *]; done))
  have c20 : w5.cell? ⟨w.heap.size + 1, 1, none⟩ = some (.int .i64 a1') := (hx5.cell 1 (by first | (simp; done) | (simp; omega) | omega)).trans (by first | assumption | (simp [go_sem]; done) | exact ((((Ext.refl _).alloc _).cell _ (by omega)).trans (by assumption)) | (simp [go_sem, *]; done))
  clear c13 c14 c15 c16
  go_wp2_with (first | (go_at_call 18; refine (neg_any _ _).mono ?_; rintro e w' ⟨rfl, rfl⟩) | (go_at_call 26; refine (add_any _ _ _).mono ?_; rintro e w' ⟨rfl, rfl⟩) | (go_at_call 28; refine (sub_any _ _ _).mono ?_; rintro e w' ⟨rfl, rfl⟩) | (go_at_call 30; refine (mul_any _ _ _).mono ?_; rintro e w' ⟨rfl, rfl⟩) | (go_at_call 35; refine (quo_any _ _ _).mono ?_; rintro e w' ⟨rfl, rfl⟩) | (go_at_call 32; refine (cmp_any _ _ _).mono ?_; rintro e w' ⟨rfl, rfl⟩))
  refine (spanneg_any a0 a0' _).mono ?_
  rintro e w6 ⟨rfl, hx6⟩
  rw [n2]
  have s6 := hx6.size
  try simp at s6
  have c21 : w6.cell? ⟨w.heap.size, 0, none⟩ = some (.int .i64 a0) := (hx6.cell 0 (by first | (simp; done) | (simp; omega) | omega)).trans (by first | assumption | (simp [go_sem]; done) | exact ((((Ext.refl _).alloc _).cell _ (by omega)).trans (by assumption)) | (simp [go_sem, *]; done))
  have c22 : w6.cell? ⟨w.heap.size, 1, none⟩ = some (.int .i64 a0') := (hx6.cell 1 (by first | (simp; done) | (simp; omega) | omega)).trans (by first | assumption | (simp [go_sem]; done) | exact ((((Ext.refl _).alloc _).cell _ (by omega)).trans (by assumption)) | (simp [go_sem, *]; done))
  have c23 : w6.cell? ⟨w.heap.size + 1, 0, none⟩ = some (.int .i64 a1) := (hx6.cell 0 (by first | (simp; done) | (simp; omega) | omega)).trans (by first | assumption | (simp [go_sem]; done) | exact ((((Ext.refl _).alloc _).cell _ (by omega)).trans (by assumption)) | (simp [go_sem, *]; done))
  have c24 : w6.cell? ⟨w.heap.size + 1, 1, none⟩ = some (.int .i64 a1') := (hx6.cell 1 (by first | (simp; done) | (simp; omega) | omega)).trans (by first | assumption | (simp [go_sem]; done) | exact ((((Ext.refl _).alloc _).cell _ (by omega)).trans (by assumption)) | (simp [go_sem, *]; done))
  clear c17 c18 c19 c20
  have d25 : ∀ ob, (w6.alloc ob).cell? ⟨w.heap.size, 0, none⟩ = some (.int .i64 a0) := fun ob => (((Ext.refl w6).alloc ob).cell 0 (by omega)).trans (by assumption)
  have d26 : ∀ ob, (w6.alloc ob).cell? ⟨w.heap.size, 1, none⟩ = some (.int .i64 a0') := fun ob => (((Ext.refl w6).alloc ob).cell 1 (by omega)).trans (by assumption)
  have d27 : ∀ ob, (w6.alloc ob).cell? ⟨w.heap.size + 1, 0, none⟩ = some (.int .i64 a1) := fun ob => (((Ext.refl w6).alloc ob).cell 0 (by omega)).trans (by assumption)
  have d28 : ∀ ob, (w6.alloc ob).cell? ⟨w.heap.size + 1, 1, none⟩ = some (.int .i64 a1') := fun ob => (((Ext.refl w6).alloc ob).cell 1 (by omega)).trans (by assumption)
  go_wp2_with fail
  refine (in_any (negV a2) (negL a0 a0') (negH a0 a0') _).mono ?_
  rintro e w7 ⟨rfl, hx7⟩
  rw [N3.out]
  have s7 := hx7.size
  try simp at s7
  have c29 : w7.cell? ⟨w.heap.size, 0, none⟩ = some (.int .i64 a0) := (hx7.cell 0 (by first | (simp; done) | (simp; omega) | omega)).trans (by first | assumption | (simp [go_sem]; done) | exact ((((Ext.refl _).alloc _).cell _ (by omega)).trans (by assumption)) | (simp [go_sem, *]; done))
  have c30 : w7.cell? ⟨w.heap.size, 1, none⟩ = some (.int .i64 a0') := (hx7.cell 1 (by first | (simp; done) | (simp; omega) | omega)).trans (by first | assumption | (simp [go_sem]; done) | exact ((((Ext.refl _).alloc _).cell _ (by omega)).trans (by assumption)) | (simp [go_sem, *]; done))
  have c31 : w7.cell? ⟨w.heap.size + 1, 0, none⟩ = some (.int .i64 a1) := (hx7.cell 0 (by first | (simp; done) | (simp; omega) | omega)).trans (by first | assumption | (simp [go_sem]; done) | exact ((((Ext.refl _).alloc _).cell _ (by omega)).trans (by assumption)) | (simp [go_sem, *]; done))
  have c32 : w7.cell? ⟨w.heap.size + 1, 1, none⟩ = some (.int .i64 a1') := (hx7.cell 1 (by first | (simp; done) | (simp; omega) | omega)).trans (by first | assumption | (simp [go_sem]; done) | exact ((((Ext.refl _).alloc _).cell _ (by omega)).trans (by assumption)) | (simp [go_sem, *]; done))
  have c33 : w7.cell? ⟨w6.heap.size, 0, none⟩ = some (.int .i64 (negL a0 a0')) := (hx7.cell 0 (by first | (simp; done) | (simp; omega) | omega)).trans (by first | assumption | (simp [go_sem]; done) | exact ((((Ext.refl _).alloc _).cell _ (by omega)).trans (by assumption)) | (simp [go_sem, *]; done))
  have c34 : w7.cell? ⟨w6.heap.size, 1, none⟩ = some (.int .i64 (negH a0 a0')) := (hx7.cell 1 (by first | (simp; done) | (simp; omega) | omega)).trans (by first | assumption | (simp [go_sem]; done) | exact ((((Ext.refl _).alloc _).cell _ (by omega)).trans (by assumption)) | (simp [go_sem, *]; done))
  have c35 : w7.frozen? ⟨w6.heap.size, 0, none⟩ = false := (hx7.froz 0 (by first | (simp; done) | (simp; omega) | omega)).trans (by first | assumption | (simp [go_sem]; done) | exact ((((Ext.refl _).alloc _).froz _ (by omega)).trans (by assumption)) | (simp [go_sem, *]; done))
  have c36 : w7.frozen? ⟨w6.heap.size, 1, none⟩ = false := (hx7.froz 1 (by first | (simp; done) | (simp; omega) | omega)).trans (by first | assumption | (simp [go_sem]; done) | exact ((((Ext.refl _).alloc _).froz _ (by omega)).trans (by assumption)) | (simp [go_sem, *]; done))
  clear c21 c22 c23 c24 d25 d26 d27 d28
  go_wp2_with (first | (go_at_call 18; refine (neg_any _ _).mono ?_; rintro e w' ⟨rfl, rfl⟩) | (go_at_call 26; refine (add_any _ _ _).mono ?_; rintro e w' ⟨rfl, rfl⟩) | (go_at_call 28; refine (sub_any _ _ _).mono ?_; rintro e w' ⟨rfl, rfl⟩) | (go_at_call 30; refine (mul_any _ _ _).mono ?_; rintro e w' ⟨rfl, rfl⟩) | (go_at_call 35; refine (quo_any _ _ _).mono ?_; rintro e w' ⟨rfl, rfl⟩) | (go_at_call 32; refine (cmp_any _ _ _).mono ?_; rintro e w' ⟨rfl, rfl⟩))
  refine (spanadd_any a0 a0' a1 a1' _).mono ?_
  rintro e w8 ⟨rfl, hx8⟩
  have s8 := hx8.size
  try simp at s8
  have c37 : w8.cell? ⟨w.heap.size, 0, none⟩ = some (.int .i64 a0) := (hx8.cell 0 (by first | (simp; done) | (simp; omega) | omega)).trans (by first | assumption | (simp [go_sem]; done) | exact ((((Ext.refl _).alloc _).cell _ (by omega)).trans (by assumption)) | (simp [go_sem, *]; done))
  have c38 : w8.cell? ⟨w.heap.size, 1, none⟩ = some (.int .i64 a0') := (hx8.cell 1 (by first | (simp; done) | (simp; omega) | omega)).trans (by first | assumption | (simp [go_sem]; done) | exact ((((Ext.refl _).alloc _).cell _ (by omega)).trans (by assumption)) | (simp [go_sem, *]; done))
  have c39 : w8.cell? ⟨w.heap.size + 1, 0, none⟩ = some (.int .i64 a1) := (hx8.cell 0 (by first | (simp; done) | (simp; omega) | omega)).trans (by first | assumption | (simp [go_sem]; done) | exact ((((Ext.refl _).alloc _).cell _ (by omega)).trans (by assumption)) | (simp [go_sem, *]; done))
  have c40 : w8.cell? ⟨w.heap.size + 1, 1, none⟩ = some (.int .i64 a1') := (hx8.cell 1 (by first | (simp; done) | (simp; omega) | omega)).trans (by first | assumption | (simp [go_sem]; done) | exact ((((Ext.refl _).alloc _).cell _ (by omega)).trans (by assumption)) | (simp [go_sem, *]; done))
  have c41 : w8.cell? ⟨w6.heap.size, 0, none⟩ = some (.int .i64 (negL a0 a0')) := (hx8.cell 0 (by first | (simp; done) | (simp; omega) | omega)).trans (by first | assumption | (simp [go_sem]; done) | exact ((((Ext.refl _).alloc _).cell _ (by omega)).trans (by assumption)) | (simp [go_sem, *]; done))
  have c42 : w8.cell? ⟨w6.heap.size, 1, none⟩ = some (.int .i64 (negH a0 a0')) := (hx8.cell 1 (by first | (simp; done) | (simp; omega) | omega)).trans (by first | assumption | (simp [go_sem]; done) | exact ((((Ext.refl _).alloc _).cell _ (by omega)).trans (by assumption)) | (simp [go_sem, *]; done))
  have c43 : w8.frozen? ⟨w6.heap.size, 0, none⟩ = false := (hx8.froz 0 (by first | (simp; done) | (simp; omega) | omega)).trans (by first | assumption | (simp [go_sem]; done) | exact ((((Ext.refl _).alloc _).froz _ (by omega)).trans (by assumption)) | (simp [go_sem, *]; done))
  have c44 : w8.frozen? ⟨w6.heap.size, 1, none⟩ = false := (hx8.froz 1 (by first | (simp; done) | (simp; omega) | omega)).trans (by first | assumption | (simp [go_sem]; done) | exact ((((Ext.refl _).alloc _).froz _ (by omega)).trans (by assumption)) | (simp [go_sem, *]; done))
  clear c29 c30 c31 c32 c33 c34 c35 c36
  have e45 : w.heap.size ≠ w6.heap.size := by omega
  have f45 : w6.heap.size ≠ w.heap.size := by omega
  have e46 : w.heap.size + 1 ≠ w6.heap.size := by omega
  have f46 : w6.heap.size ≠ w.heap.size + 1 := by omega
  go_wp2_with fail
  refine (held_any _ _ _ _ _ _ _ HA.out).mono ?_
  rintro e w9 ⟨rfl, hx9⟩
  have s9 := hx9.size
  try simp at s9
  have c47 : w9.cell? ⟨w.heap.size, 0, none⟩ = some (.int .i64 a0) := (hx9.cell 0 (by first | (simp; done) | (simp; omega) | omega)).trans (by first | assumption | (simp [go_sem]; done) | exact ((((Ext.refl _).alloc _).cell _ (by omega)).trans (by assumption)) | (simp [go_sem, *]; done))
  have c48 : w9.cell? ⟨w.heap.size, 1, none⟩ = some (.int .i64 a0') := (hx9.cell 1 (by first | (simp; done) | (simp; omega) | omega)).trans (by first | assumption | (simp [go_sem]; done) | exact ((((Ext.refl _).alloc _).cell _ (by omega)).trans (by assumption)) | (simp [go_sem, *]; done))
  have c49 : w9.cell? ⟨w.heap.size + 1, 0, none⟩ = some (.int .i64 a1) := (hx9.cell 0 (by first | (simp; done) | (simp; omega) | omega)).trans (by first | assumption | (simp [go_sem]; done) | exact ((((Ext.refl _).alloc _).cell _ (by omega)).trans (by assumption)) | (simp [go_sem, *]; done))
  have c50 : w9.cell? ⟨w.heap.size + 1, 1, none⟩ = some (.int .i64 a1') := (hx9.cell 1 (by first | (simp; done) | (simp; omega) | omega)).trans (by first | assumption | (simp [go_sem]; done) | exact ((((Ext.refl _).alloc _).cell _ (by omega)).trans (by assumption)) | (simp [go_sem, *]; done))
  have c51 : w9.cell? ⟨w6.heap.size, 0, none⟩ = some (.int .i64 (sL (spB a0 a0' && spB a1 a1') (a0 + a1) (a0' + a1'))) := (hx9.cell 0 (by first | (simp; done) | (simp; omega) | omega)).trans (by first | assumption | (simp [go_sem]; done) | exact ((((Ext.refl _).alloc _).cell _ (by omega)).trans (by assumption)) | (simp [go_sem, *]; done))
  have c52 : w9.cell? ⟨w6.heap.size, 1, none⟩ = some (.int .i64 (sH (spB a0 a0' && spB a1 a1') (a0 + a1) (a0' + a1'))) := (hx9.cell 1 (by first | (simp; done) | (simp; omega) | omega)).trans (by first | assumption | (simp [go_sem]; done) | exact ((((Ext.refl _).alloc _).cell _ (by omega)).trans (by assumption)) | (simp [go_sem, *]; done))
  have c53 : w9.frozen? ⟨w6.heap.size, 0, none⟩ = false := (hx9.froz 0 (by first | (simp; done) | (simp; omega) | omega)).trans (by first | assumption | (simp [go_sem]; done) | exact ((((Ext.refl _).alloc _).froz _ (by omega)).trans (by assumption)) | (simp [go_sem, *]; done))
  have c54 : w9.frozen? ⟨w6.heap.size, 1, none⟩ = false := (hx9.froz 1 (by first | (simp; done) | (simp; omega) | omega)).trans (by first | assumption | (simp [go_sem]; done) | exact ((((Ext.refl _).alloc _).froz _ (by omega)).trans (by assumption)) | (simp [go_sem, *]; done))
  clear c37 c38 c39 c40 c41 c42 c43 c44
  go_wp2_with (first | (go_at_call 18; refine (neg_any _ _).mono ?_; rintro e w' ⟨rfl, rfl⟩) | (go_at_call 26; refine (add_any _ _ _).mono ?_; rintro e w' ⟨rfl, rfl⟩) | (go_at_call 28; refine (sub_any _ _ _).mono ?_; rintro e w' ⟨rfl, rfl⟩) | (go_at_call 30; refine (mul_any _ _ _).mono ?_; rintro e w' ⟨rfl, rfl⟩) | (go_at_call 35; refine (quo_any _ _ _).mono ?_; rintro e w' ⟨rfl, rfl⟩) | (go_at_call 32; refine (cmp_any _ _ _).mono ?_; rintro e w' ⟨rfl, rfl⟩))
  refine (spansub_any a0 a0' a1 a1' _).mono ?_
  rintro e w10 ⟨rfl, hx10⟩
  have s10 := hx10.size
  try simp at s10
  have c55 : w10.cell? ⟨w.heap.size, 0, none⟩ = some (.int .i64 a0) := (hx10.cell 0 (by first | (simp; done) | (simp; omega) | omega)).trans (by first | assumption | (simp [go_sem]; done) | exact ((((Ext.refl _).alloc _).cell _ (by omega)).trans (by assumption)) | (simp [go_sem, *]; done))
  have c56 : w10.cell? ⟨w.heap.size, 1, none⟩ = some (.int .i64 a0') := (hx10.cell 1 (by first | (simp; done) | (simp; omega) | omega)).trans (by first | assumption | (simp [go_sem]; done) | exact ((((Ext.refl _).alloc _).cell _ (by omega)).trans (by assumption)) | (simp [go_sem, *]; done))
  have c57 : w10.cell? ⟨w.heap.size + 1, 0, none⟩ = some (.int .i64 a1) := (hx10.cell 0 (by first | (simp; done) | (simp; omega) | omega)).trans (by first | assumption | (simp [go_sem]; done) | exact ((((Ext.refl _).alloc _).cell _ (by omega)).trans (by assumption)) | (simp [go_sem, *]; done))
  have c58 : w10.cell? ⟨w.heap.size + 1, 1, none⟩ = some (.int .i64 a1') := (hx10.cell 1 (by first | (simp; done) | (simp; omega) | omega)).trans (by first | assumption | (simp [go_sem]; done) | exact ((((Ext.refl _).alloc _).cell _ (by omega)).trans (by assumption)) | (simp [go_sem, *]; done))
  have c59 : w10.cell? ⟨w6.heap.size, 0, none⟩ = some (.int .i64 (sL (spB a0 a0' && spB a1 a1') (a0 + a1) (a0' + a1'))) := (hx10.cell 0 (by first | (simp; done) | (simp; omega) | omega)).trans (by first | assumption | (simp [go_sem]; done) | exact ((((Ext.refl _).alloc _).cell _ (by omega)).trans (by assumption)) | (simp [go_sem, *]; done))
  have c60 : w10.cell? ⟨w6.heap.size, 1, none⟩ = some (.int .i64 (sH (spB a0 a0' && spB a1 a1') (a0 + a1) (a0' + a1'))) := (hx10.cell 1 (by first | (simp; done) | (simp; omega) | omega)).trans (by first | assumption | (simp [go_sem]; done) | exact ((((Ext.refl _).alloc _).cell _ (by omega)).trans (by assumption)) | (simp [go_sem, *]; done))
  have c61 : w10.frozen? ⟨w6.heap.size, 0, none⟩ = false := (hx10.froz 0 (by first | (simp; done) | (simp; omega) | omega)).trans (by first | assumption | (simp [go_sem]; done) | exact ((((Ext.refl _).alloc _).froz _ (by omega)).trans (by assumption)) | (simp [go_sem, *]; done))
  have c62 : w10.frozen? ⟨w6.heap.size, 1, none⟩ = false := (hx10.froz 1 (by first | (simp; done) | (simp; omega) | omega)).trans (by first | assumption | (simp [go_sem]; done) | exact ((((Ext.refl _).alloc _).froz _ (by omega)).trans (by assumption)) | (simp [go_sem, *]; done))
  clear c47 c48 c49 c50 c51 c52 c53 c54
  go_wp2_with fail
  refine (held_any _ _ _ _ _ _ _ HS.out).mono ?_
  rintro e w11 ⟨rfl, hx11⟩
  have s11 := hx11.size
  try simp at s11
  have c63 : w11.cell? ⟨w.heap.size, 0, none⟩ = some (.int .i64 a0) := (hx11.cell 0 (by first | (simp; done) | (simp; omega) | omega)).trans (by first | assumption | (simp [go_sem]; done) | exact ((((Ext.refl _).alloc _).cell _ (by omega)).trans (by assumption)) | (simp [go_sem, *]; done))
  have c64 : w11.cell? ⟨w.heap.size, 1, none⟩ = some (.int .i64 a0') := (hx11.cell 1 (by first | (simp; done) | (simp; omega) | omega)).trans (by first | assumption | (simp [go_sem]; done) | exact ((((Ext.refl _).alloc _).cell _ (by omega)).trans (by assumption)) | (simp [go_sem, *]; done))
  have c65 : w11.cell? ⟨w.heap.size + 1, 0, none⟩ = some (.int .i64 a1) := (hx11.cell 0 (by first | (simp; done) | (simp; omega) | omega)).trans (by first | assumption | (simp [go_sem]; done) | exact ((((Ext.refl _).alloc _).cell _ (by omega)).trans (by assumption)) | (simp [go_sem, *]; done))
  have c66 : w11.cell? ⟨w.heap.size + 1, 1, none⟩ = some (.int .i64 a1') := (hx11.cell 1 (by first | (simp; done) | (simp; omega) | omega)).trans (by first | assumption | (simp [go_sem]; done) | exact ((((Ext.refl _).alloc _).cell _ (by omega)).trans (by assumption)) | (simp [go_sem, *]; done))
  have c67 : w11.cell? ⟨w6.heap.size, 0, none⟩ = some (.int .i64 (sL (spB a0 a0' && spB a1 a1') (a0 - a1') (a0' - a1))) := (hx11.cell 0 (by first | (simp; done) | (simp; omega) | omega)).trans (by first | assumption | (simp [go_sem]; done) | exact ((((Ext.refl _).alloc _).cell _ (by omega)).trans (by assumption)) | (simp [go_sem, *]; done))
  have c68 : w11.cell? ⟨w6.heap.size, 1, none⟩ = some (.int .i64 (sH (spB a0 a0' && spB a1 a1') (a0 - a1') (a0' - a1))) := (hx11.cell 1 (by first | (simp; done) | (simp; omega) | omega)).trans (by first | assumption | (simp [go_sem]; done) | exact ((((Ext.refl _).alloc _).cell _ (by omega)).trans (by assumption)) | (simp [go_sem, *]; done))
  have c69 : w11.frozen? ⟨w6.heap.size, 0, none⟩ = false := (hx11.froz 0 (by first | (simp; done) | (simp; omega) | omega)).trans (by first | assumption | (simp [go_sem]; done) | exact ((((Ext.refl _).alloc _).froz _ (by omega)).trans (by assumption)) | (simp [go_sem, *]; done))
  have c70 : w11.frozen? ⟨w6.heap.size, 1, none⟩ = false := (hx11.froz 1 (by first | (simp; done) | (simp; omega) | omega)).trans (by first | assumption | (simp [go_sem]; done) | exact ((((Ext.refl _).alloc _).froz _ (by omega)).trans (by assumption)) | (simp [go_sem, *]; done))
  clear c55 c56 c57 c58 c59 c60 c61 c62
  go_wp2_with (first | (go_at_call 18; refine (neg_any _ _).mono ?_; rintro e w' ⟨rfl, rfl⟩) | (go_at_call 26; refine (add_any _ _ _).mono ?_; rintro e w' ⟨rfl, rfl⟩) | (go_at_call 28; refine (sub_any _ _ _).mono ?_; rintro e w' ⟨rfl, rfl⟩) | (go_at_call 30; refine (mul_any _ _ _).mono ?_; rintro e w' ⟨rfl, rfl⟩) | (go_at_call 35; refine (quo_any _ _ _).mono ?_; rintro e w' ⟨rfl, rfl⟩) | (go_at_call 32; refine (cmp_any _ _ _).mono ?_; rintro e w' ⟨rfl, rfl⟩))
  refine (spanmul_any a0 a0' a1 a1' _).mono ?_
  rintro e w12 ⟨rfl, hx12⟩
  have s12 := hx12.size
  try simp at s12
  have c71 : w12.cell? ⟨w.heap.size, 0, none⟩ = some (.int .i64 a0) := (hx12.cell 0 (by first | (simp; done) | (simp; omega) | omega)).trans (by first | assumption | (simp [go_sem]; done) | exact ((((Ext.refl _).alloc _).cell _ (by omega)).trans (by assumption)) | (simp [go_sem, *]; done))
  have c72 : w12.cell? ⟨w.heap.size, 1, none⟩ = some (.int .i64 a0') := (hx12.cell 1 (by first | (simp; done) | (simp; omega) | omega)).trans (by first | assumption | (simp [go_sem]; done) | exact ((((Ext.refl _).alloc _).cell _ (by omega)).trans (by assumption)) | (simp [go_sem, *]; done))
  have c73 : w12.cell? ⟨w.heap.size + 1, 0, none⟩ = some (.int .i64 a1) := (hx12.cell 0 (by first | (simp; done) | (simp; omega) | omega)).trans (by first | assumption | (simp [go_sem]; done) | exact ((((Ext.refl _).alloc _).cell _ (by omega)).trans (by assumption)) | (simp [go_sem, *]; done))
  have c74 : w12.cell? ⟨w.heap.size + 1, 1, none⟩ = some (.int .i64 a1') := (hx12.cell 1 (by first | (simp; done) | (simp; omega) | omega)).trans (by first | assumption | (simp [go_sem]; done) | exact ((((Ext.refl _).alloc _).cell _ (by omega)).trans (by assumption)) | (simp [go_sem, *]; done))
  have c75 : w12.cell? ⟨w6.heap.size, 0, none⟩ = some (.int .i64 (sL (spB a0 a0' && spB a1 a1') (a0 - a1') (a0' - a1))) := (hx12.cell 0 (by first | (simp; done) | (simp; omega) | omega)).trans (by first | assumption | (simp [go_sem]; done) | exact ((((Ext.refl _).alloc _).cell _ (by omega)).trans (by assumption)) | (simp [go_sem, *]; done))
  have c76 : w12.cell? ⟨w6.heap.size, 1, none⟩ = some (.int .i64 (sH (spB a0 a0' && spB a1 a1') (a0 - a1') (a0' - a1))) := (hx12.cell 1 (by first | (simp; done) | (simp; omega) | omega)).trans (by first | assumption | (simp [go_sem]; done) | exact ((((Ext.refl _).alloc _).cell _ (by omega)).trans (by assumption)) | (simp [go_sem, *]; done))
  have c77 : w12.frozen? ⟨w6.heap.size, 0, none⟩ = false := (hx12.froz 0 (by first | (simp; done) | (simp; omega) | omega)).trans (by first | assumption | (simp [go_sem]; done) | exact ((((Ext.refl _).alloc _).froz _ (by omega)).trans (by assumption)) | (simp [go_sem, *]; done))
  have c78 : w12.frozen? ⟨w6.heap.size, 1, none⟩ = false := (hx12.froz 1 (by first | (simp; done) | (simp; omega) | omega)).trans (by first | assumption | (simp [go_sem]; done) | exact ((((Ext.refl _).alloc _).froz _ (by omega)).trans (by assumption)) | (simp [go_sem, *]; done))
  clear c63 c64 c65 c66 c67 c68 c69 c70
  go_wp2_with fail
  refine (held_any _ _ _ _ _ _ _ HM.out).mono ?_
  rintro e w13 ⟨rfl, hx13⟩
  have s13 := hx13.size
  try simp at s13
  have c79 : w13.cell? ⟨w.heap.size, 0, none⟩ = some (.int .i64 a0) := (hx13.cell 0 (by first | (simp; done) | (simp; omega) | omega)).trans (by first | assumption | (simp [go_sem]; done) | exact ((((Ext.refl _).alloc _).cell _ (by omega)).trans (by assumption)) | (simp [go_sem, *]; done))
  have c80 : w13.cell? ⟨w.heap.size, 1, none⟩ = some (.int .i64 a0') := (hx13.cell 1 (by first | (simp; done) | (simp; omega) | omega)).trans (by first | assumption | (simp [go_sem]; done) | exact ((((Ext.refl _).alloc _).cell _ (by omega)).trans (by assumption)) | (simp [go_sem, *]; done))
  have c81 : w13.cell? ⟨w.heap.size + 1, 0, none⟩ = some (.int .i64 a1) := (hx13.cell 0 (by first | (simp; done) | (simp; omega) | omega)).trans (by first | assumption | (simp [go_sem]; done) | exact ((((Ext.refl _).alloc _).cell _ (by omega)).trans (by assumption)) | (simp [go_sem, *]; done))
  have c82 : w13.cell? ⟨w.heap.size + 1, 1, none⟩ = some (.int .i64 a1') := (hx13.cell 1 (by first | (simp; done) | (simp; omega) | omega)).trans (by first | assumption | (simp [go_sem]; done) | exact ((((Ext.refl _).alloc _).cell _ (by omega)).trans (by assumption)) | (simp [go_sem, *]; done))
  have c83 : w13.cell? ⟨w6.heap.size, 0, none⟩ = some (.int .i64 (sL (spB a0 a0' && spB a1 a1') (mn4 (· * ·) a0 a0' a1 a1') (mx4 (· * ·) a0 a0' a1 a1'))) := (hx13.cell 0 (by first | (simp; done) | (simp; omega) | omega)).trans (by first | assumption | (simp [go_sem]; done) | exact ((((Ext.refl _).alloc _).cell _ (by omega)).trans (by assumption)) | (simp [go_sem, *]; done))
  have c84 : w13.cell? ⟨w6.heap.size, 1, none⟩ = some (.int .i64 (sH (spB a0 a0' && spB a1 a1') (mn4 (· * ·) a0 a0' a1 a1') (mx4 (· * ·) a0 a0' a1 a1'))) := (hx13.cell 1 (by first | (simp; done) | (simp; omega) | omega)).trans (by first | assumption | (simp [go_sem]; done) | exact ((((Ext.refl _).alloc _).cell _ (by omega)).trans (by assumption)) | (simp [go_sem, *]; done))
  have c85 : w13.frozen? ⟨w6.heap.size, 0, none⟩ = false := (hx13.froz 0 (by first | (simp; done) | (simp; omega) | omega)).trans (by first | assumption | (simp [go_sem]; done) | exact ((((Ext.refl _).alloc _).froz _ (by omega)).trans (by assumption)) | (simp [go_sem, *]; done))
  have c86 : w13.frozen? ⟨w6.heap.size, 1, none⟩ = false := (hx13.froz 1 (by first | (simp; done) | (simp; omega) | omega)).trans (by first | assumption | (simp [go_sem]; done) | exact ((((Ext.refl _).alloc _).froz _ (by omega)).trans (by assumption)) | (simp [go_sem, *]; done))
  clear c71 c72 c73 c74 c75 c76 c77 c78
  go_wp2_with (first | (go_at_call 18; refine (neg_any _ _).mono ?_; rintro e w' ⟨rfl, rfl⟩) | (go_at_call 26; refine (add_any _ _ _).mono ?_; rintro e w' ⟨rfl, rfl⟩) | (go_at_call 28; refine (sub_any _ _ _).mono ?_; rintro e w' ⟨rfl, rfl⟩) | (go_at_call 30; refine (mul_any _ _ _).mono ?_; rintro e w' ⟨rfl, rfl⟩) | (go_at_call 35; refine (quo_any _ _ _).mono ?_; rintro e w' ⟨rfl, rfl⟩) | (go_at_call 32; refine (cmp_any _ _ _).mono ?_; rintro e w' ⟨rfl, rfl⟩))
  refine (spanquo_any a0 a0' a1 a1' _).mono ?_
  rintro e w14 ⟨rfl, hx14⟩
  have s14 := hx14.size
  try simp at s14
  have c87 : w14.cell? ⟨w.heap.size, 0, none⟩ = some (.int .i64 a0) := (hx14.cell 0 (by first | (simp; done) | (simp; omega) | omega)).trans (by first | assumption | (simp [go_sem]; done) | exact ((((Ext.refl _).alloc _).cell _ (by omega)).trans (by assumption)) | (simp [go_sem, *]; done))
  have c88 : w14.cell? ⟨w.heap.size, 1, none⟩ = some (.int .i64 a0') := (hx14.cell 1 (by first | (simp; done) | (simp; omega) | omega)).trans (by first | assumption | (simp [go_sem]; done) | exact ((((Ext.refl _).alloc _).cell _ (by omega)).trans (by assumption)) | (simp [go_sem, *]; done))
  have c89 : w14.cell? ⟨w.heap.size + 1, 0, none⟩ = some (.int .i64 a1) := (hx14.cell 0 (by first | (simp; done) | (simp; omega) | omega)).trans (by first | assumption | (simp [go_sem]; done) | exact ((((Ext.refl _).alloc _).cell _ (by omega)).trans (by assumption)) | (simp [go_sem, *]; done))
  have c90 : w14.cell? ⟨w.heap.size + 1, 1, none⟩ = some (.int .i64 a1') := (hx14.cell 1 (by first | (simp; done) | (simp; omega) | omega)).trans (by first | assumption | (simp [go_sem]; done) | exact ((((Ext.refl _).alloc _).cell _ (by omega)).trans (by assumption)) | (simp [go_sem, *]; done))
  have c91 : w14.cell? ⟨w6.heap.size, 0, none⟩ = some (.int .i64 (sL (spB a0 a0' && spB a1 a1') (mn4 (· * ·) a0 a0' a1 a1') (mx4 (· * ·) a0 a0' a1 a1'))) := (hx14.cell 0 (by first | (simp; done) | (simp; omega) | omega)).trans (by first | assumption | (simp [go_sem]; done) | exact ((((Ext.refl _).alloc _).cell _ (by omega)).trans (by assumption)) | (simp [go_sem, *]; done))
  have c92 : w14.cell? ⟨w6.heap.size, 1, none⟩ = some (.int .i64 (sH (spB a0 a0' && spB a1 a1') (mn4 (· * ·) a0 a0' a1 a1') (mx4 (· * ·) a0 a0' a1 a1'))) := (hx14.cell 1 (by first | (simp; done) | (simp; omega) | omega)).trans (by first | assumption | (simp [go_sem]; done) | exact ((((Ext.refl _).alloc _).cell _ (by omega)).trans (by assumption)) | (simp [go_sem, *]; done))
  have c93 : w14.frozen? ⟨w6.heap.size, 0, none⟩ = false := (hx14.froz 0 (by first | (simp; done) | (simp; omega) | omega)).trans (by first | assumption | (simp [go_sem]; done) | exact ((((Ext.refl _).alloc _).froz _ (by omega)).trans (by assumption)) | (simp [go_sem, *]; done))
  have c94 : w14.frozen? ⟨w6.heap.size, 1, none⟩ = false := (hx14.froz 1 (by first | (simp; done) | (simp; omega) | omega)).trans (by first | assumption | (simp [go_sem]; done) | exact ((((Ext.refl _).alloc _).froz _ (by omega)).trans (by assumption)) | (simp [go_sem, *]; done))
  clear c79 c80 c81 c82 c83 c84 c85 c86
  go_wp2_with fail
  refine (held_any _ _ _ _ _ _ _ HQ.out).mono ?_
  rintro e w15 ⟨rfl, hx15⟩
  have s15 := hx15.size
  try simp at s15
  have c95 : w15.cell? ⟨w.heap.size, 0, none⟩ = some (.int .i64 a0) := (hx15.cell 0 (by first | (simp; done) | (simp; omega) | omega)).trans (by first | assumption | (simp [go_sem]; done) | exact ((((Ext.refl _).alloc _).cell _ (by omega)).trans (by assumption)) | (simp [go_sem, *]; done))
  have c96 : w15.cell? ⟨w.heap.size, 1, none⟩ = some (.int .i64 a0') := (hx15.cell 1 (by first | (simp; done) | (simp; omega) | omega)).trans (by first | assumption | (simp [go_sem]; done) | exact ((((Ext.refl _).alloc _).cell _ (by omega)).trans (by assumption)) | (simp [go_sem, *]; done))
  have c97 : w15.cell? ⟨w.heap.size + 1, 0, none⟩ = some (.int .i64 a1) := (hx15.cell 0 (by first | (simp; done) | (simp; omega) | omega)).trans (by first | assumption | (simp [go_sem]; done) | exact ((((Ext.refl _).alloc _).cell _ (by omega)).trans (by assumption)) | (simp [go_sem, *]; done))
  have c98 : w15.cell? ⟨w.heap.size + 1, 1, none⟩ = some (.int .i64 a1') := (hx15.cell 1 (by first | (simp; done) | (simp; omega) | omega)).trans (by first | assumption | (simp [go_sem]; done) | exact ((((Ext.refl _).alloc _).cell _ (by omega)).trans (by assumption)) | (simp [go_sem, *]; done))
  have c99 : w15.cell? ⟨w6.heap.size, 0, none⟩ = some (.int .i64 (sqL a0 a0' a1 a1')) := (hx15.cell 0 (by first | (simp; done) | (simp; omega) | omega)).trans (by first | assumption | (simp [go_sem]; done) | exact ((((Ext.refl _).alloc _).cell _ (by omega)).trans (by assumption)) | (simp [go_sem, *]; done))
  have c100 : w15.cell? ⟨w6.heap.size, 1, none⟩ = some (.int .i64 (sqH a0 a0' a1 a1')) := (hx15.cell 1 (by first | (simp; done) | (simp; omega) | omega)).trans (by first | assumption | (simp [go_sem]; done) | exact ((((Ext.refl _).alloc _).cell _ (by omega)).trans (by assumption)) | (simp [go_sem, *]; done))
  have c101 : w15.frozen? ⟨w6.heap.size, 0, none⟩ = false := (hx15.froz 0 (by first | (simp; done) | (simp; omega) | omega)).trans (by first | assumption | (simp [go_sem]; done) | exact ((((Ext.refl _).alloc _).froz _ (by omega)).trans (by assumption)) | (simp [go_sem, *]; done))
  have c102 : w15.frozen? ⟨w6.heap.size, 1, none⟩ = false := (hx15.froz 1 (by first | (simp; done) | (simp; omega) | omega)).trans (by first | assumption | (simp [go_sem]; done) | exact ((((Ext.refl _).alloc _).froz _ (by omega)).trans (by assumption)) | (simp [go_sem, *]; done))
  clear c87 c88 c89 c90 c91 c92 c93 c94
  go_wp2_with (first | (go_at_call 18; refine (neg_any _ _).mono ?_; rintro e w' ⟨rfl, rfl⟩) | (go_at_call 26; refine (add_any _ _ _).mono ?_; rintro e w' ⟨rfl, rfl⟩) | (go_at_call 28; refine (sub_any _ _ _).mono ?_; rintro e w' ⟨rfl, rfl⟩) | (go_at_call 30; refine (mul_any _ _ _).mono ?_; rintro e w' ⟨rfl, rfl⟩) | (go_at_call 35; refine (quo_any _ _ _).mono ?_; rintro e w' ⟨rfl, rfl⟩) | (go_at_call 32; refine (cmp_any _ _ _).mono ?_; rintro e w' ⟨rfl, rfl⟩))
  refine (spancmp_any a0 a0' a1 a1' _).mono ?_
  rintro e w16 ⟨rfl, hx16⟩
  rw [N5.out]
  have s16 := hx16.size
  try simp at s16
  have c103 : w16.cell? ⟨w.heap.size, 0, none⟩ = some (.int .i64 a0) := (hx16.cell 0 (by first | (simp; done) | (simp; omega) | omega)).trans (by first | assumption | (simp [go_sem]; done) | exact ((((Ext.refl _).alloc _).cell _ (by omega)).trans (by assumption)) | (simp [go_sem, *]; done))
  have c104 : w16.cell? ⟨w.heap.size, 1, none⟩ = some (.int .i64 a0') := (hx16.cell 1 (by first | (simp; done) | (simp; omega) | omega)).trans (by first | assumption | (simp [go_sem]; done) | exact ((((Ext.refl _).alloc _).cell _ (by omega)).trans (by assumption)) | (simp [go_sem, *]; done))
  have c105 : w16.cell? ⟨w.heap.size + 1, 0, none⟩ = some (.int .i64 a1) := (hx16.cell 0 (by first | (simp; done) | (simp; omega) | omega)).trans (by first | assumption | (simp [go_sem]; done) | exact ((((Ext.refl _).alloc _).cell _ (by omega)).trans (by assumption)) | (simp [go_sem, *]; done))
  have c106 : w16.cell? ⟨w.heap.size + 1, 1, none⟩ = some (.int .i64 a1') := (hx16.cell 1 (by first | (simp; done) | (simp; omega) | omega)).trans (by first | assumption | (simp [go_sem]; done) | exact ((((Ext.refl _).alloc _).cell _ (by omega)).trans (by assumption)) | (simp [go_sem, *]; done))
  have c107 : w16.cell? ⟨w6.heap.size, 0, none⟩ = some (.int .i64 (sqL a0 a0' a1 a1')) := (hx16.cell 0 (by first | (simp; done) | (simp; omega) | omega)).trans (by first | assumption | (simp [go_sem]; done) | exact ((((Ext.refl _).alloc _).cell _ (by omega)).trans (by assumption)) | (simp [go_sem, *]; done))
  have c108 : w16.cell? ⟨w6.heap.size, 1, none⟩ = some (.int .i64 (sqH a0 a0' a1 a1')) := (hx16.cell 1 (by first | (simp; done) | (simp; omega) | omega)).trans (by first | assumption | (simp [go_sem]; done) | exact ((((Ext.refl _).alloc _).cell _ (by omega)).trans (by assumption)) | (simp [go_sem, *]; done))
  have c109 : w16.frozen? ⟨w6.heap.size, 0, none⟩ = false := (hx16.froz 0 (by first | (simp; done) | (simp; omega) | omega)).trans (by first | assumption | (simp [go_sem]; done) | exact ((((Ext.refl _).alloc _).froz _ (by omega)).trans (by assumption)) | (simp [go_sem, *]; done))
  have c110 : w16.frozen? ⟨w6.heap.size, 1, none⟩ = false := (hx16.froz 1 (by first | (simp; done) | (simp; omega) | omega)).trans (by first | assumption | (simp [go_sem]; done) | exact ((((Ext.refl _).alloc _).froz _ (by omega)).trans (by assumption)) | (simp [go_sem, *]; done))
  clear c95 c96 c97 c98 c99 c100 c101 c102
  go_wp2_with fail
  refine (in_any (cmpV a2 a3) (twoS (spB a0 a0' && spB a1 a1') (cmpI a0 a1')) (twoS (spB a0 a0' && spB a1 a1') (cmpI a0' a1)) _).mono ?_
  rintro e w17 ⟨rfl, hx17⟩
  rw [N6.out]
  have s17 := hx17.size
  try simp at s17
  have c111 : w17.cell? ⟨w.heap.size, 0, none⟩ = some (.int .i64 a0) := (hx17.cell 0 (by first | (simp; done) | (simp; omega) | omega)).trans (by first | assumption | (simp [go_sem]; done) | exact ((((Ext.refl _).alloc _).cell _ (by omega)).trans (by assumption)) | (simp [go_sem, *]; done))
  have c112 : w17.cell? ⟨w.heap.size, 1, none⟩ = some (.int .i64 a0') := (hx17.cell 1 (by first | (simp; done) | (simp; omega) | omega)).trans (by first | assumption | (simp [go_sem]; done) | exact ((((Ext.refl _).alloc _).cell _ (by omega)).trans (by assumption)) | (simp [go_sem, *]; done))
  have c113 : w17.cell? ⟨w.heap.size + 1, 0, none⟩ = some (.int .i64 a1) := (hx17.cell 0 (by first | (simp; done) | (simp; omega) | omega)).trans (by first | assumption | (simp [go_sem]; done) | exact ((((Ext.refl _).alloc _).cell _ (by omega)).trans (by assumption)) | (simp [go_sem, *]; done))
  have c114 : w17.cell? ⟨w.heap.size + 1, 1, none⟩ = some (.int .i64 a1') := (hx17.cell 1 (by first | (simp; done) | (simp; omega) | omega)).trans (by first | assumption | (simp [go_sem]; done) | exact ((((Ext.refl _).alloc _).cell _ (by omega)).trans (by assumption)) | (simp [go_sem, *]; done))
  have c115 : w17.cell? ⟨w6.heap.size, 0, none⟩ = some (.int .i64 (twoS (spB a0 a0' && spB a1 a1') (cmpI a0 a1'))) := (hx17.cell 0 (by first | (simp; done) | (simp; omega) | omega)).trans (by first | assumption | (simp [go_sem]; done) | exact ((((Ext.refl _).alloc _).cell _ (by omega)).trans (by assumption)) | (simp [go_sem, *]; done))
  have c116 : w17.cell? ⟨w6.heap.size, 1, none⟩ = some (.int .i64 (twoS (spB a0 a0' && spB a1 a1') (cmpI a0' a1))) := (hx17.cell 1 (by first | (simp; done) | (simp; omega) | omega)).trans (by first | assumption | (simp [go_sem]; done) | exact ((((Ext.refl _).alloc _).cell _ (by omega)).trans (by assumption)) | (simp [go_sem, *]; done))
  have c117 : w17.frozen? ⟨w6.heap.size, 0, none⟩ = false := (hx17.froz 0 (by first | (simp; done) | (simp; omega) | omega)).trans (by first | assumption | (simp [go_sem]; done) | exact ((((Ext.refl _).alloc _).froz _ (by omega)).trans (by assumption)) | (simp [go_sem, *]; done))
  have c118 : w17.frozen? ⟨w6.heap.size, 1, none⟩ = false := (hx17.froz 1 (by first | (simp; done) | (simp; omega) | omega)).trans (by first | assumption | (simp [go_sem]; done) | exact ((((Ext.refl _).alloc _).froz _ (by omega)).trans (by assumption)) | (simp [go_sem, *]; done))
  clear c103 c104 c105 c106 c107 c108 c109 c110
  have n4 := N4.out
  go_wp2
  go_ret
  exact ⟨rfl, by repeat (first | exact Ext.refl _ | assumption | refine Ext.drewN ?_ _ | refine Ext.drew ?_ | refine Ext.alloc ?_ _ | refine Ext.setCell ?_ (by dsimp only; omega) _ | refine Ext.trans ?_ (by assumption))⟩

set_option maxRecDepth 100000 in
set_option maxHeartbeats 8000000 in
theorem walk (a0 a0' : Int) (w0 : (Lit.int .i64 a0).wf = true) (w0' : (Lit.int .i64 a0').wf = true) (a1 a1' : Int) (w1 : (Lit.int .i64 a1).wf = true) (w1' : (Lit.int .i64 a1').wf = true) (a2 : Int) (w2 : (Lit.int .i64 a2).wf = true) (a3 : Int) (w3 : (Lit.int .i64 a3).wf = true) (w : World) :
    Calls Try.prog 13 #[.agg #[.int .i64 a0, .int .i64 a0'], .agg #[.int .i64 a1, .int .i64 a1'], .int .i64 a2, .int .i64 a3] w fun e w' => e = .returned (.bool true) ∧ Ext w w' := by
  have : True := (fun _ _ _ _ _ _ => trivial) w0 w0' w1 w1' w2 w3
  clear this w0 w0' w1 w1' w2 w3
  rcases (Bool.eq_false_or_eq_true (spB a0 a0')).symm with v1 | v1
  · go_enter Try.func13, Try.ntmps13
    go_wp2_with fail
    refine (wide_any _).mono ?_
    rintro e w1 ⟨rfl, hx1⟩
    have s1 := hx1.size
    try simp at s1
    have c1 : w1.cell? ⟨w.heap.size, 0, none⟩ = some (.int .i64 a0) := (hx1.cell 0 (by first | (simp; done) | (simp; omega) | omega)).trans (by first | assumption | (simp [go_sem]; done) | exact ((((Ext.refl _).alloc _).cell _ (by omega)).trans (by assumption)) | (simp [go_sem, *]; done))
    have c2 : w1.cell? ⟨w.heap.size, 1, none⟩ = some (.int .i64 a0') := (hx1.cell 1 (by first | (simp; done) | (simp; omega) | omega)).trans (by first | assumption | (simp [go_sem]; done) | exact ((((Ext.refl _).alloc _).cell _ (by omega)).trans (by assumption)) | (simp [go_sem, *]; done))
    have c3 : w1.cell? ⟨w.heap.size + 1, 0, none⟩ = some (.int .i64 a1) := (hx1.cell 0 (by first | (simp; done) | (simp; omega) | omega)).trans (by first | assumption | (simp [go_sem]; done) | exact ((((Ext.refl _).alloc _).cell _ (by omega)).trans (by assumption)) | (simp [go_sem, *]; done))
    have c4 : w1.cell? ⟨w.heap.size + 1, 1, none⟩ = some (.int .i64 a1') := (hx1.cell 1 (by first | (simp; done) | (simp; omega) | omega)).trans (by first | assumption | (simp [go_sem]; done) | exact ((((Ext.refl _).alloc _).cell _ (by omega)).trans (by assumption)) | (simp [go_sem, *]; done))
    go_wp2_with fail
    refine (validSpan_any a0 a0' _).mono ?_
    rintro e w2 ⟨rfl, hx2⟩
    rw [v1]
    have s2 := hx2.size
    try simp at s2
    have c5 : w2.cell? ⟨w.heap.size, 0, none⟩ = some (.int .i64 a0) := (hx2.cell 0 (by first | (simp; done) | (simp; omega) | omega)).trans (by first | assumption | (simp [go_sem]; done) | exact ((((Ext.refl _).alloc _).cell _ (by omega)).trans (by assumption)) | (simp [go_sem, *]; done))
    have c6 : w2.cell? ⟨w.heap.size, 1, none⟩ = some (.int .i64 a0') := (hx2.cell 1 (by first | (simp; done) | (simp; omega) | omega)).trans (by first | assumption | (simp [go_sem]; done) | exact ((((Ext.refl _).alloc _).cell _ (by omega)).trans (by assumption)) | (simp [go_sem, *]; done))
    have c7 : w2.cell? ⟨w.heap.size + 1, 0, none⟩ = some (.int .i64 a1) := (hx2.cell 0 (by first | (simp; done) | (simp; omega) | omega)).trans (by first | assumption | (simp [go_sem]; done) | exact ((((Ext.refl _).alloc _).cell _ (by omega)).trans (by assumption)) | (simp [go_sem, *]; done))
    have c8 : w2.cell? ⟨w.heap.size + 1, 1, none⟩ = some (.int .i64 a1') := (hx2.cell 1 (by first | (simp; done) | (simp; omega) | omega)).trans (by first | assumption | (simp [go_sem]; done) | exact ((((Ext.refl _).alloc _).cell _ (by omega)).trans (by assumption)) | (simp [go_sem, *]; done))
    clear c1 c2 c3 c4
    go_wp2
    go_ret
    exact ⟨rfl, by repeat (first | exact Ext.refl _ | assumption | refine Ext.drewN ?_ _ | refine Ext.drew ?_ | refine Ext.alloc ?_ _ | refine Ext.setCell ?_ (by dsimp only; omega) _ | refine Ext.trans ?_ (by assumption))⟩
  rcases (Bool.eq_false_or_eq_true (spB a1 a1')).symm with v2 | v2
  · go_enter Try.func13, Try.ntmps13
    go_wp2_with fail
    refine (wide_any _).mono ?_
    rintro e w1 ⟨rfl, hx1⟩
    have s1 := hx1.size
    try simp at s1
    have c1 : w1.cell? ⟨w.heap.size, 0, none⟩ = some (.int .i64 a0) := (hx1.cell 0 (by first | (simp; done) | (simp; omega) | omega)).trans (by first | assumption | (simp [go_sem]; done) | exact ((((Ext.refl _).alloc _).cell _ (by omega)).trans (by assumption)) | (simp [go_sem, *]; done))
    have c2 : w1.cell? ⟨w.heap.size, 1, none⟩ = some (.int .i64 a0') := (hx1.cell 1 (by first | (simp; done) | (simp; omega) | omega)).trans (by first | assumption | (simp [go_sem]; done) | exact ((((Ext.refl _).alloc _).cell _ (by omega)).trans (by assumption)) | (simp [go_sem, *]; done))
    have c3 : w1.cell? ⟨w.heap.size + 1, 0, none⟩ = some (.int .i64 a1) := (hx1.cell 0 (by first | (simp; done) | (simp; omega) | omega)).trans (by first | assumption | (simp [go_sem]; done) | exact ((((Ext.refl _).alloc _).cell _ (by omega)).trans (by assumption)) | (simp [go_sem, *]; done))
    have c4 : w1.cell? ⟨w.heap.size + 1, 1, none⟩ = some (.int .i64 a1') := (hx1.cell 1 (by first | (simp; done) | (simp; omega) | omega)).trans (by first | assumption | (simp [go_sem]; done) | exact ((((Ext.refl _).alloc _).cell _ (by omega)).trans (by assumption)) | (simp [go_sem, *]; done))
    go_wp2_with fail
    refine (validSpan_any a0 a0' _).mono ?_
    rintro e w2 ⟨rfl, hx2⟩
    rw [v1]
    have s2 := hx2.size
    try simp at s2
    have c5 : w2.cell? ⟨w.heap.size, 0, none⟩ = some (.int .i64 a0) := (hx2.cell 0 (by first | (simp; done) | (simp; omega) | omega)).trans (by first | assumption | (simp [go_sem]; done) | exact ((((Ext.refl _).alloc _).cell _ (by omega)).trans (by assumption)) | (simp [go_sem, *]; done))
    have c6 : w2.cell? ⟨w.heap.size, 1, none⟩ = some (.int .i64 a0') := (hx2.cell 1 (by first | (simp; done) | (simp; omega) | omega)).trans (by first | assumption | (simp [go_sem]; done) | exact ((((Ext.refl _).alloc _).cell _ (by omega)).trans (by assumption)) | (simp [go_sem, *]; done))
    have c7 : w2.cell? ⟨w.heap.size + 1, 0, none⟩ = some (.int .i64 a1) := (hx2.cell 0 (by first | (simp; done) | (simp; omega) | omega)).trans (by first | assumption | (simp [go_sem]; done) | exact ((((Ext.refl _).alloc _).cell _ (by omega)).trans (by assumption)) | (simp [go_sem, *]; done))
    have c8 : w2.cell? ⟨w.heap.size + 1, 1, none⟩ = some (.int .i64 a1') := (hx2.cell 1 (by first | (simp; done) | (simp; omega) | omega)).trans (by first | assumption | (simp [go_sem]; done) | exact ((((Ext.refl _).alloc _).cell _ (by omega)).trans (by assumption)) | (simp [go_sem, *]; done))
    clear c1 c2 c3 c4
    go_wp2_with fail
    refine (validSpan_any a1 a1' _).mono ?_
    rintro e w3 ⟨rfl, hx3⟩
    rw [v2]
    have s3 := hx3.size
    try simp at s3
    have c9 : w3.cell? ⟨w.heap.size, 0, none⟩ = some (.int .i64 a0) := (hx3.cell 0 (by first | (simp; done) | (simp; omega) | omega)).trans (by first | assumption | (simp [go_sem]; done) | exact ((((Ext.refl _).alloc _).cell _ (by omega)).trans (by assumption)) | (simp [go_sem, *]; done))
    have c10 : w3.cell? ⟨w.heap.size, 1, none⟩ = some (.int .i64 a0') := (hx3.cell 1 (by first | (simp; done) | (simp; omega) | omega)).trans (by first | assumption | (simp [go_sem]; done) | exact ((((Ext.refl _).alloc _).cell _ (by omega)).trans (by assumption)) | (simp [go_sem, *]; done))
    have c11 : w3.cell? ⟨w.heap.size + 1, 0, none⟩ = some (.int .i64 a1) := (hx3.cell 0 (by first | (simp; done) | (simp; omega) | omega)).trans (by first | assumption | (simp [go_sem]; done) | exact ((((Ext.refl _).alloc _).cell _ (by omega)).trans (by assumption)) | (simp [go_sem, *]; done))
    have c12 : w3.cell? ⟨w.heap.size + 1, 1, none⟩ = some (.int .i64 a1') := (hx3.cell 1 (by first | (simp; done) | (simp; omega) | omega)).trans (by first | assumption | (simp [go_sem]; done) | exact ((((Ext.refl _).alloc _).cell _ (by omega)).trans (by assumption)) | (simp [go_sem, *]; done))
    clear c5 c6 c7 c8
    go_wp2
    go_ret
    exact ⟨rfl, by repeat (first | exact Ext.refl _ | assumption | refine Ext.drewN ?_ _ | refine Ext.drew ?_ | refine Ext.alloc ?_ _ | refine Ext.setCell ?_ (by dsimp only; omega) _ | refine Ext.trans ?_ (by assumption))⟩
  rcases (Bool.eq_false_or_eq_true (inB a2 a0 a0')).symm with m1 | m1
  · go_enter Try.func13, Try.ntmps13
    go_wp2_with fail
    refine (wide_any _).mono ?_
    rintro e w1 ⟨rfl, hx1⟩
    have s1 := hx1.size
    try simp at s1
    have c1 : w1.cell? ⟨w.heap.size, 0, none⟩ = some (.int .i64 a0) := (hx1.cell 0 (by first | (simp; done) | (simp; omega) | omega)).trans (by first | assumption | (simp [go_sem]; done) | exact ((((Ext.refl _).alloc _).cell _ (by omega)).trans (by assumption)) | (simp [go_sem, *]; done))
    have c2 : w1.cell? ⟨w.heap.size, 1, none⟩ = some (.int .i64 a0') := (hx1.cell 1 (by first | (simp; done) | (simp; omega) | omega)).trans (by first | assumption | (simp [go_sem]; done) | exact ((((Ext.refl _).alloc _).cell _ (by omega)).trans (by assumption)) | (simp [go_sem, *]; done))
    have c3 : w1.cell? ⟨w.heap.size + 1, 0, none⟩ = some (.int .i64 a1) := (hx1.cell 0 (by first | (simp; done) | (simp; omega) | omega)).trans (by first | assumption | (simp [go_sem]; done) | exact ((((Ext.refl _).alloc _).cell _ (by omega)).trans (by assumption)) | (simp [go_sem, *]; done))
    have c4 : w1.cell? ⟨w.heap.size + 1, 1, none⟩ = some (.int .i64 a1') := (hx1.cell 1 (by first | (simp; done) | (simp; omega) | omega)).trans (by first | assumption | (simp [go_sem]; done) | exact ((((Ext.refl _).alloc _).cell _ (by omega)).trans (by assumption)) | (simp [go_sem, *]; done))
    go_wp2_with fail
    refine (validSpan_any a0 a0' _).mono ?_
    rintro e w2 ⟨rfl, hx2⟩
    rw [v1]
    have s2 := hx2.size
    try simp at s2
    have c5 : w2.cell? ⟨w.heap.size, 0, none⟩ = some (.int .i64 a0) := (hx2.cell 0 (by first | (simp; done) | (simp; omega) | omega)).trans (by first | assumption | (simp [go_sem]; done) | exact ((((Ext.refl _).alloc _).cell _ (by omega)).trans (by assumption)) | (simp [go_sem, *]; done))
    have c6 : w2.cell? ⟨w.heap.size, 1, none⟩ = some (.int .i64 a0') := (hx2.cell 1 (by first | (simp; done) | (simp; omega) | omega)).trans (by first | assumption | (simp [go_sem]; done) | exact ((((Ext.refl _).alloc _).cell _ (by omega)).trans (by assumption)) | (simp [go_sem, *]; done))
    have c7 : w2.cell? ⟨w.heap.size + 1, 0, none⟩ = some (.int .i64 a1) := (hx2.cell 0 (by first | (simp; done) | (simp; omega) | omega)).trans (by first | assumption | (simp [go_sem]; done) | exact ((((Ext.refl _).alloc _).cell _ (by omega)).trans (by assumption)) | (simp [go_sem, *]; done))
    have c8 : w2.cell? ⟨w.heap.size + 1, 1, none⟩ = some (.int .i64 a1') := (hx2.cell 1 (by first | (simp; done) | (simp; omega) | omega)).trans (by first | assumption | (simp [go_sem]; done) | exact ((((Ext.refl _).alloc _).cell _ (by omega)).trans (by assumption)) | (simp [go_sem, *]; done))
    clear c1 c2 c3 c4
    go_wp2_with fail
    refine (validSpan_any a1 a1' _).mono ?_
    rintro e w3 ⟨rfl, hx3⟩
    rw [v2]
    have s3 := hx3.size
    try simp at s3
    have c9 : w3.cell? ⟨w.heap.size, 0, none⟩ = some (.int .i64 a0) := (hx3.cell 0 (by first | (simp; done) | (simp; omega) | omega)).trans (by first | assumption | (simp [go_sem]; done) | exact ((((Ext.refl _).alloc _).cell _ (by omega)).trans (by assumption)) | (simp [go_sem, *]; done))
    have c10 : w3.cell? ⟨w.heap.size, 1, none⟩ = some (.int .i64 a0') := (hx3.cell 1 (by first | (simp; done) | (simp; omega) | omega)).trans (by first | assumption | (simp [go_sem]; done) | exact ((((Ext.refl _).alloc _).cell _ (by omega)).trans (by assumption)) | (simp [go_sem, *]; done))
    have c11 : w3.cell? ⟨w.heap.size + 1, 0, none⟩ = some (.int .i64 a1) := (hx3.cell 0 (by first | (simp; done) | (simp; omega) | omega)).trans (by first | assumption | (simp [go_sem]; done) | exact ((((Ext.refl _).alloc _).cell _ (by omega)).trans (by assumption)) | (simp [go_sem, *]; done))
    have c12 : w3.cell? ⟨w.heap.size + 1, 1, none⟩ = some (.int .i64 a1') := (hx3.cell 1 (by first | (simp; done) | (simp; omega) | omega)).trans (by first | assumption | (simp [go_sem]; done) | exact ((((Ext.refl _).alloc _).cell _ (by omega)).trans (by assumption)) | (simp [go_sem, *]; done))
    clear c5 c6 c7 c8
    go_wp2_with fail
    refine (in_any a2 a0 a0' _).mono ?_
    rintro e w4 ⟨rfl, hx4⟩
    rw [m1]
    have s4 := hx4.size
    try simp at s4
    have c13 : w4.cell? ⟨w.heap.size, 0, none⟩ = some (.int .i64 a0) := (hx4.cell 0 (by first | (simp; done) | (simp; omega) | omega)).trans (by first | assumption | (simp [go_sem]; done) | exact ((((Ext.refl _).alloc _).cell _ (by omega)).trans (by assumption)) | (simp [go_sem, *]; done))
    have c14 : w4.cell? ⟨w.heap.size, 1, none⟩ = some (.int .i64 a0') := (hx4.cell 1 (by first | (simp; done) | (simp; omega) | omega)).trans (by first | assumption | (simp [go_sem]; done) | exact ((((Ext.refl _).alloc _).cell _ (by omega)).trans (by assumption)) | (simp [go_sem, *]; done))
    have c15 : w4.cell? ⟨w.heap.size + 1, 0, none⟩ = some (.int .i64 a1) := (hx4.cell 0 (by first | (simp; done) | (simp; omega) | omega)).trans (by first | assumption | (simp [go_sem]; done) | exact ((((Ext.refl _).alloc _).cell _ (by omega)).trans (by assumption)) | (simp [go_sem, *]; done))
    have c16 : w4.cell? ⟨w.heap.size + 1, 1, none⟩ = some (.int .i64 a1') := (hx4.cell 1 (by first | (simp; done) | (simp; omega) | omega)).trans (by first | assumption | (simp [go_sem]; done) | exact ((((Ext.refl _).alloc _).cell _ (by omega)).trans (by assumption)) | (simp [go_sem, *]; done))
    clear c9 c10 c11 c12
    go_wp2
    go_ret
    exact ⟨rfl, by repeat (first | exact Ext.refl _ | assumption | refine Ext.drewN ?_ _ | refine Ext.drew ?_ | refine Ext.alloc ?_ _ | refine Ext.setCell ?_ (by dsimp only; omega) _ | refine Ext.trans ?_ (by assumption))⟩
  rcases (Bool.eq_false_or_eq_true (inB a3 a1 a1')).symm with m2 | m2
  · go_enter Try.func13, Try.ntmps13
    go_wp2_with fail
    refine (wide_any _).mono ?_
    rintro e w1 ⟨rfl, hx1⟩
    have s1 := hx1.size
    try simp at s1
    have c1 : w1.cell? ⟨w.heap.size, 0, none⟩ = some (.int .i64 a0) := (hx1.cell 0 (by first | (simp; done) | (simp; omega) | omega)).trans (by first | assumption | (simp [go_sem]; done) | exact ((((Ext.refl _).alloc _).cell _ (by omega)).trans (by assumption)) | (simp [go_sem, *]; done))
    have c2 : w1.cell? ⟨w.heap.size, 1, none⟩ = some (.int .i64 a0') := (hx1.cell 1 (by first | (simp; done) | (simp; omega) | omega)).trans (by first | assumption | (simp [go_sem]; done) | exact ((((Ext.refl _).alloc _).cell _ (by omega)).trans (by assumption)) | (simp [go_sem, *]; done))
    have c3 : w1.cell? ⟨w.heap.size + 1, 0, none⟩ = some (.int .i64 a1) := (hx1.cell 0 (by first | (simp; done) | (simp; omega) | omega)).trans (by first | assumption | (simp [go_sem]; done) | exact ((((Ext.refl _).alloc _).cell _ (by omega)).trans (by assumption)) | (simp [go_sem, *]; done))
    have c4 : w1.cell? ⟨w.heap.size + 1, 1, none⟩ = some (.int .i64 a1') := (hx1.cell 1 (by first | (simp; done) | (simp; omega) | omega)).trans (by first | assumption | (simp [go_sem]; done) | exact ((((Ext.refl _).alloc _).cell _ (by omega)).trans (by assumption)) | (simp [go_sem, *]; done))
    go_wp2_with fail
    refine (validSpan_any a0 a0' _).mono ?_
    rintro e w2 ⟨rfl, hx2⟩
    rw [v1]
    have s2 := hx2.size
    try simp at s2
    have c5 : w2.cell? ⟨w.heap.size, 0, none⟩ = some (.int .i64 a0) := (hx2.cell 0 (by first | (simp; done) | (simp; omega) | omega)).trans (by first | assumption | (simp [go_sem]; done) | exact ((((Ext.refl _).alloc _).cell _ (by omega)).trans (by assumption)) | (simp [go_sem, *]; done))
    have c6 : w2.cell? ⟨w.heap.size, 1, none⟩ = some (.int .i64 a0') := (hx2.cell 1 (by first | (simp; done) | (simp; omega) | omega)).trans (by first | assumption | (simp [go_sem]; done) | exact ((((Ext.refl _).alloc _).cell _ (by omega)).trans (by assumption)) | (simp [go_sem, *]; done))
    have c7 : w2.cell? ⟨w.heap.size + 1, 0, none⟩ = some (.int .i64 a1) := (hx2.cell 0 (by first | (simp; done) | (simp; omega) | omega)).trans (by first | assumption | (simp [go_sem]; done) | exact ((((Ext.refl _).alloc _).cell _ (by omega)).trans (by assumption)) | (simp [go_sem, *]; done))
    have c8 : w2.cell? ⟨w.heap.size + 1, 1, none⟩ = some (.int .i64 a1') := (hx2.cell 1 (by first | (simp; done) | (simp; omega) | omega)).trans (by first | assumption | (simp [go_sem]; done) | exact ((((Ext.refl _).alloc _).cell _ (by omega)).trans (by assumption)) | (simp [go_sem, *]; done))
    clear c1 c2 c3 c4
    go_wp2_with fail
    refine (validSpan_any a1 a1' _).mono ?_
    rintro e w3 ⟨rfl, hx3⟩
    rw [v2]
    have s3 := hx3.size
    try simp at s3
    have c9 : w3.cell? ⟨w.heap.size, 0, none⟩ = some (.int .i64 a0) := (hx3.cell 0 (by first | (simp; done) | (simp; omega) | omega)).trans (by first | assumption | (simp [go_sem]; done) | exact ((((Ext.refl _).alloc _).cell _ (by omega)).trans (by assumption)) | (simp [go_sem, *]; done))
    have c10 : w3.cell? ⟨w.heap.size, 1, none⟩ = some (.int .i64 a0') := (hx3.cell 1 (by first | (simp; done) | (simp; omega) | omega)).trans (by first | assumption | (simp [go_sem]; done) | exact ((((Ext.refl _).alloc _).cell _ (by omega)).trans (by assumption)) | (simp [go_sem, *]; done))
    have c11 : w3.cell? ⟨w.heap.size + 1, 0, none⟩ = some (.int .i64 a1) := (hx3.cell 0 (by first | (simp; done) | (simp; omega) | omega)).trans (by first | assumption | (simp [go_sem]; done) | exact ((((Ext.refl _).alloc _).cell _ (by omega)).trans (by assumption)) | (simp [go_sem, *]; done))
    have c12 : w3.cell? ⟨w.heap.size + 1, 1, none⟩ = some (.int .i64 a1') := (hx3.cell 1 (by first | (simp; done) | (simp; omega) | omega)).trans (by first | assumption | (simp [go_sem]; done) | exact ((((Ext.refl _).alloc _).cell _ (by omega)).trans (by assumption)) | (simp [go_sem, *]; done))
    clear c5 c6 c7 c8
    go_wp2_with fail
    refine (in_any a2 a0 a0' _).mono ?_
    rintro e w4 ⟨rfl, hx4⟩
    rw [m1]
    have s4 := hx4.size
    try simp at s4
    have c13 : w4.cell? ⟨w.heap.size, 0, none⟩ = some (.int .i64 a0) := (hx4.cell 0 (by first | (simp; done) | (simp; omega) | omega)).trans (by first | assumption | (simp [go_sem]; done) | exact ((((Ext.refl _).alloc _).cell _ (by omega)).trans (by assumption)) | (simp [go_sem, *]; done))
    have c14 : w4.cell? ⟨w.heap.size, 1, none⟩ = some (.int .i64 a0') := (hx4.cell 1 (by first | (simp; done) | (simp; omega) | omega)).trans (by first | assumption | (simp [go_sem]; done) | exact ((((Ext.refl _).alloc _).cell _ (by omega)).trans (by assumption)) | (simp [go_sem, *]; done))
    have c15 : w4.cell? ⟨w.heap.size + 1, 0, none⟩ = some (.int .i64 a1) := (hx4.cell 0 (by first | (simp; done) | (simp; omega) | omega)).trans (by first | assumption | (simp [go_sem]; done) | exact ((((Ext.refl _).alloc _).cell _ (by omega)).trans (by assumption)) | (simp [go_sem, *]; done))
    have c16 : w4.cell? ⟨w.heap.size + 1, 1, none⟩ = some (.int .i64 a1') := (hx4.cell 1 (by first | (simp; done) | (simp; omega) | omega)).trans (by first | assumption | (simp [go_sem]; done) | exact ((((Ext.refl _).alloc _).cell _ (by omega)).trans (by assumption)) | (simp [go_sem, *]; done))
    clear c9 c10 c11 c12
    go_wp2_with fail
    refine (in_any a3 a1 a1' _).mono ?_
    rintro e w5 ⟨rfl, hx5⟩
    rw [m2]
    have s5 := hx5.size
    try simp at s5
    have c17 : w5.cell? ⟨w.heap.size, 0, none⟩ = some (.int .i64 a0) := (hx5.cell 0 (by first | (simp; done) | (simp; omega) | omega)).trans (by first | assumption | (simp [go_sem]; done) | exact ((((Ext.refl _).alloc _).cell _ (by omega)).trans (by assumption)) | (simp [go_sem, *]; done))
    have c18 : w5.cell? ⟨w.heap.size, 1, none⟩ = some (.int .i64 a0') := (hx5.cell 1 (by first | (simp; done) | (simp; omega) | omega)).trans (by first | assumption | (simp [go_sem]; done) | exact ((((Ext.refl _).alloc _).cell _ (by omega)).trans (by assumption)) | (simp [go_sem, *]; done))
    have c19 : w5.cell? ⟨w.heap.size + 1, 0, none⟩ = some (.int .i64 a1) := (hx5.cell 0 (by first | (simp; done) | (simp; omega) | omega)).trans (by first | assumption | (simp [go_sem]; done) | exact ((((Ext.refl _).alloc _).cell _ (by omega)).trans (by assumption)) | (simp [go_sem, *]; done))
    have c20 : w5.cell? ⟨w.heap.size + 1, 1, none⟩ = some (.int .i64 a1') := (hx5.cell 1 (by first | (simp; done) | (simp; omega) | omega)).trans (by first | assumption | (simp [go_sem]; done) | exact ((((Ext.refl _).alloc _).cell _ (by omega)).trans (by assumption)) | (simp [go_sem, *]; done))
    clear c13 c14 c15 c16
    go_wp2
    go_ret
    exact ⟨rfl, by repeat (first | exact Ext.refl _ | assumption | refine Ext.drewN ?_ _ | refine Ext.drew ?_ | refine Ext.alloc ?_ _ | refine Ext.setCell ?_ (by dsimp only; omega) _ | refine Ext.trans ?_ (by assumption))⟩
  exact main a0 a0' a1 a1' a2 a3 w v1 v2 m1 m2
end Go.Proofs.Ytmcajdfbkhaplaa.integerSound
