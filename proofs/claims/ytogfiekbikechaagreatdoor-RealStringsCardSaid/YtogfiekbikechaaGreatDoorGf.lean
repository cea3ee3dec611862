/- Layer 2: the parts of a numeric string, as the program reads them. -/
import Derived.Test.YtogfiekbikechaaGreatDoorGe
namespace Go.Proofs.YtogfiekbikechaaGreatDoor
open Go.RowKit

set_option maxRecDepth 100000 in
set_option maxHeartbeats 1000000 in
theorem rd_s_no_end (s s1 d s2 af ag D : List UInt8) (neg : Bool) (_ex : Int) (hl : s.length ≤ 60) (hd : d ≠ []) (hg : s2 = []) (hP1 : ∀ w, Calls Tryz.prog 103 #[.string (bs s), .string ⟨#[45]⟩] w fun e w' => e = .returned (.tuple #[.string (bs s1), .bool neg]) ∧ w = w') (hC1 : ∀ w, Calls Tryz.prog 104 #[.string (bs s1)] w fun e w' => e = .returned (.tuple #[.string (bs d), .string (bs s2)]) ∧ Ext w w') (hP2 : ∀ w, Calls Tryz.prog 103 #[.string (bs s2), .string ⟨#[46]⟩] w fun e w' => e = .returned (.tuple #[.string (bs af), .bool false]) ∧ w = w') (hP3 : ∀ w, Calls Tryz.prog 103 #[.string (bs s2), .string ⟨#[101]⟩] w fun e w' => e = .returned (.tuple #[.string (bs ag), .bool false]) ∧ w = w') (hTZ : ∀ w, Calls Tryz.prog 106 #[.string (bs d), .string ⟨#[48]⟩] w fun e w' => e = .returned (.string (bs D)) ∧ Ext w w') (w : World) :
    Calls Tryz.prog 83 #[.string (bs s)] w fun e w' => e = .returned (.tuple #[.agg #[.bool neg, .string (bs D), .int .i64 0], .bool true]) ∧ Ext w w' := by
  have zs : (bs s).size = s.length := rfl
  have hl2 : ¬ (60 : Int) < s.length := by omega
  obtain ⟨m1, m2⟩ := list_some hd
  obtain ⟨m5, m6⟩ := list_none hg
  have P1 := Lib.hid hP1
  have C1 := Lib.hid hC1
  have P2 := Lib.hid hP2
  have P3 := Lib.hid hP3
  have TZ := Lib.hid hTZ
  clear hd hP1 hC1 hP2 hP3 hTZ hg
  go_enter Tryz.func83, Tryz.ntmps83
  go_wp2_with fail
  refine (P1.out _).mono ?_
  rintro e w' ⟨rfl, rfl⟩
  go_wp2_with fail
  refine (C1.out _).mono ?_
  rintro e w1 ⟨rfl, hx1⟩
  have y1 := Lib.hid (((Ext.refl w).alloc (.cells #[.bool false, .string ⟨#[]⟩, .int .i64 0] 90)).trans hx1)
  have c10 : w1.cell? ⟨w.heap.size, 0, none⟩ = some (.bool false) := (hx1.cell 0 (by simp)).trans (by simp [go_sem])
  have f10 : w1.frozen? ⟨w.heap.size, 0, none⟩ = false := (hx1.froz 0 (by simp)).trans (by simp [go_sem])
  have c11 : w1.cell? ⟨w.heap.size, 1, none⟩ = some (.string ⟨#[]⟩) := (hx1.cell 1 (by simp)).trans (by simp [go_sem])
  have f11 : w1.frozen? ⟨w.heap.size, 1, none⟩ = false := (hx1.froz 1 (by simp)).trans (by simp [go_sem])
  have c12 : w1.cell? ⟨w.heap.size, 2, none⟩ = some (.int .i64 0) := (hx1.cell 2 (by simp)).trans (by simp [go_sem])
  have f12 : w1.frozen? ⟨w.heap.size, 2, none⟩ = false := (hx1.froz 2 (by simp)).trans (by simp [go_sem])
  have q1 : w.heap.size < w1.heap.size := by have := hx1.size; simp at this; omega
  go_wp2_with fail
  refine (P2.out _).mono ?_
  rintro e w' ⟨rfl, rfl⟩
  go_wp2_with fail
  refine (P3.out _).mono ?_
  rintro e w' ⟨rfl, rfl⟩
  go_wp2_with fail
  refine (TZ.out _).mono ?_
  rintro e w2 ⟨rfl, hx2⟩
  have y2 := Lib.hid (y1.out.trans hx2)
  have c20 : w2.cell? ⟨w.heap.size, 0, none⟩ = some (.bool false) := (hx2.cell 0 q1).trans c10
  have f20 : w2.frozen? ⟨w.heap.size, 0, none⟩ = false := (hx2.froz 0 q1).trans f10
  have c21 : w2.cell? ⟨w.heap.size, 1, none⟩ = some (.string ⟨#[]⟩) := (hx2.cell 1 q1).trans c11
  have f21 : w2.frozen? ⟨w.heap.size, 1, none⟩ = false := (hx2.froz 1 q1).trans f11
  have c22 : w2.cell? ⟨w.heap.size, 2, none⟩ = some (.int .i64 0) := (hx2.cell 2 q1).trans c12
  have f22 : w2.frozen? ⟨w.heap.size, 2, none⟩ = false := (hx2.froz 2 q1).trans f12
  have q2 : w.heap.size < w2.heap.size := Nat.lt_of_lt_of_le q1 hx2.size
  clear c10 f10 c11 f11 c12 f12 hx2
  go_wp2
  refine bodyPost_ret (v := .tuple #[.agg #[.bool neg, .string (bs D), .int .i64 0], .bool true]) ?_ rfl ⟨rfl, ?_⟩
  · simp [results, Tryz.results83, go_sem, c20, c21, c22]
  · repeat (first | with_reducible exact y2.out | with_reducible refine Ext.setCell ?_ (by simp) _)

set_option maxRecDepth 100000 in
set_option maxHeartbeats 1000000 in
theorem rd_s_no_more (s s1 d s2 af ag D : List UInt8) (neg : Bool) (_ex : Int) (hl : s.length ≤ 60) (hd : d ≠ []) (hg : s2 ≠ []) (hP1 : ∀ w, Calls Tryz.prog 103 #[.string (bs s), .string ⟨#[45]⟩] w fun e w' => e = .returned (.tuple #[.string (bs s1), .bool neg]) ∧ w = w') (hC1 : ∀ w, Calls Tryz.prog 104 #[.string (bs s1)] w fun e w' => e = .returned (.tuple #[.string (bs d), .string (bs s2)]) ∧ Ext w w') (hP2 : ∀ w, Calls Tryz.prog 103 #[.string (bs s2), .string ⟨#[46]⟩] w fun e w' => e = .returned (.tuple #[.string (bs af), .bool false]) ∧ w = w') (hP3 : ∀ w, Calls Tryz.prog 103 #[.string (bs s2), .string ⟨#[101]⟩] w fun e w' => e = .returned (.tuple #[.string (bs ag), .bool false]) ∧ w = w') (hTZ : ∀ w, Calls Tryz.prog 106 #[.string (bs d), .string ⟨#[48]⟩] w fun e w' => e = .returned (.string (bs D)) ∧ Ext w w') (w : World) :
    Calls Tryz.prog 83 #[.string (bs s)] w fun e w' => e = .returned (.tuple #[.agg #[.bool neg, .string (bs D), .int .i64 0], .bool false]) ∧ Ext w w' := by
  have zs : (bs s).size = s.length := rfl
  have hl2 : ¬ (60 : Int) < s.length := by omega
  obtain ⟨m1, m2⟩ := list_some hd
  obtain ⟨m5, m6⟩ := list_some hg
  have P1 := Lib.hid hP1
  have C1 := Lib.hid hC1
  have P2 := Lib.hid hP2
  have P3 := Lib.hid hP3
  have TZ := Lib.hid hTZ
  clear hd hP1 hC1 hP2 hP3 hTZ hg
  go_enter Tryz.func83, Tryz.ntmps83
  go_wp2_with fail
  refine (P1.out _).mono ?_
  rintro e w' ⟨rfl, rfl⟩
  go_wp2_with fail
  refine (C1.out _).mono ?_
  rintro e w1 ⟨rfl, hx1⟩
  have y1 := Lib.hid (((Ext.refl w).alloc (.cells #[.bool false, .string ⟨#[]⟩, .int .i64 0] 90)).trans hx1)
  have c10 : w1.cell? ⟨w.heap.size, 0, none⟩ = some (.bool false) := (hx1.cell 0 (by simp)).trans (by simp [go_sem])
  have f10 : w1.frozen? ⟨w.heap.size, 0, none⟩ = false := (hx1.froz 0 (by simp)).trans (by simp [go_sem])
  have c11 : w1.cell? ⟨w.heap.size, 1, none⟩ = some (.string ⟨#[]⟩) := (hx1.cell 1 (by simp)).trans (by simp [go_sem])
  have f11 : w1.frozen? ⟨w.heap.size, 1, none⟩ = false := (hx1.froz 1 (by simp)).trans (by simp [go_sem])
  have c12 : w1.cell? ⟨w.heap.size, 2, none⟩ = some (.int .i64 0) := (hx1.cell 2 (by simp)).trans (by simp [go_sem])
  have f12 : w1.frozen? ⟨w.heap.size, 2, none⟩ = false := (hx1.froz 2 (by simp)).trans (by simp [go_sem])
  have q1 : w.heap.size < w1.heap.size := by have := hx1.size; simp at this; omega
  go_wp2_with fail
  refine (P2.out _).mono ?_
  rintro e w' ⟨rfl, rfl⟩
  go_wp2_with fail
  refine (P3.out _).mono ?_
  rintro e w' ⟨rfl, rfl⟩
  go_wp2_with fail
  refine (TZ.out _).mono ?_
  rintro e w2 ⟨rfl, hx2⟩
  have y2 := Lib.hid (y1.out.trans hx2)
  have c20 : w2.cell? ⟨w.heap.size, 0, none⟩ = some (.bool false) := (hx2.cell 0 q1).trans c10
  have f20 : w2.frozen? ⟨w.heap.size, 0, none⟩ = false := (hx2.froz 0 q1).trans f10
  have c21 : w2.cell? ⟨w.heap.size, 1, none⟩ = some (.string ⟨#[]⟩) := (hx2.cell 1 q1).trans c11
  have f21 : w2.frozen? ⟨w.heap.size, 1, none⟩ = false := (hx2.froz 1 q1).trans f11
  have c22 : w2.cell? ⟨w.heap.size, 2, none⟩ = some (.int .i64 0) := (hx2.cell 2 q1).trans c12
  have f22 : w2.frozen? ⟨w.heap.size, 2, none⟩ = false := (hx2.froz 2 q1).trans f12
  have q2 : w.heap.size < w2.heap.size := Nat.lt_of_lt_of_le q1 hx2.size
  clear c10 f10 c11 f11 c12 f12 hx2
  go_wp2
  refine bodyPost_ret (v := .tuple #[.agg #[.bool neg, .string (bs D), .int .i64 0], .bool false]) ?_ rfl ⟨rfl, ?_⟩
  · simp [results, Tryz.results83, go_sem, c20, c21, c22]
  · repeat (first | with_reducible exact y2.out | with_reducible refine Ext.setCell ?_ (by simp) _)

set_option maxRecDepth 100000 in
set_option maxHeartbeats 1000000 in
theorem rd_s_no_exp (s s1 d s2 af ag D : List UInt8) (neg : Bool) (ex : Int) (hl : s.length ≤ 60) (hd : d ≠ []) (he1 : -10000 ≤ ex) (he2 : ex ≤ 10000) (hP1 : ∀ w, Calls Tryz.prog 103 #[.string (bs s), .string ⟨#[45]⟩] w fun e w' => e = .returned (.tuple #[.string (bs s1), .bool neg]) ∧ w = w') (hC1 : ∀ w, Calls Tryz.prog 104 #[.string (bs s1)] w fun e w' => e = .returned (.tuple #[.string (bs d), .string (bs s2)]) ∧ Ext w w') (hP2 : ∀ w, Calls Tryz.prog 103 #[.string (bs s2), .string ⟨#[46]⟩] w fun e w' => e = .returned (.tuple #[.string (bs af), .bool false]) ∧ w = w') (hP3 : ∀ w, Calls Tryz.prog 103 #[.string (bs s2), .string ⟨#[101]⟩] w fun e w' => e = .returned (.tuple #[.string (bs ag), .bool true]) ∧ w = w') (hRE : ∀ w, Calls Tryz.prog 105 #[.string (bs ag)] w fun e w' => e = .returned (.tuple #[.int .i64 ex, .bool true]) ∧ Ext w w') (hTZ : ∀ w, Calls Tryz.prog 106 #[.string (bs d), .string ⟨#[48]⟩] w fun e w' => e = .returned (.string (bs D)) ∧ Ext w w') (w : World) :
    Calls Tryz.prog 83 #[.string (bs s)] w fun e w' => e = .returned (.tuple #[.agg #[.bool neg, .string (bs D), .int .i64 ex], .bool true]) ∧ Ext w w' := by
  have zs : (bs s).size = s.length := rfl
  have hl2 : ¬ (60 : Int) < s.length := by omega
  obtain ⟨m1, m2⟩ := list_some hd
  have P1 := Lib.hid hP1
  have C1 := Lib.hid hC1
  have P2 := Lib.hid hP2
  have P3 := Lib.hid hP3
  have RE := Lib.hid hRE
  have TZ := Lib.hid hTZ
  clear hd hP1 hC1 hP2 hP3 hRE hTZ
  go_enter Tryz.func83, Tryz.ntmps83
  go_wp2_with fail
  refine (P1.out _).mono ?_
  rintro e w' ⟨rfl, rfl⟩
  go_wp2_with fail
  refine (C1.out _).mono ?_
  rintro e w1 ⟨rfl, hx1⟩
  have y1 := Lib.hid (((Ext.refl w).alloc (.cells #[.bool false, .string ⟨#[]⟩, .int .i64 0] 90)).trans hx1)
  have c10 : w1.cell? ⟨w.heap.size, 0, none⟩ = some (.bool false) := (hx1.cell 0 (by simp)).trans (by simp [go_sem])
  have f10 : w1.frozen? ⟨w.heap.size, 0, none⟩ = false := (hx1.froz 0 (by simp)).trans (by simp [go_sem])
  have c11 : w1.cell? ⟨w.heap.size, 1, none⟩ = some (.string ⟨#[]⟩) := (hx1.cell 1 (by simp)).trans (by simp [go_sem])
  have f11 : w1.frozen? ⟨w.heap.size, 1, none⟩ = false := (hx1.froz 1 (by simp)).trans (by simp [go_sem])
  have c12 : w1.cell? ⟨w.heap.size, 2, none⟩ = some (.int .i64 0) := (hx1.cell 2 (by simp)).trans (by simp [go_sem])
  have f12 : w1.frozen? ⟨w.heap.size, 2, none⟩ = false := (hx1.froz 2 (by simp)).trans (by simp [go_sem])
  have q1 : w.heap.size < w1.heap.size := by have := hx1.size; simp at this; omega
  go_wp2_with fail
  refine (P2.out _).mono ?_
  rintro e w' ⟨rfl, rfl⟩
  go_wp2_with fail
  refine (P3.out _).mono ?_
  rintro e w' ⟨rfl, rfl⟩
  go_wp2_with fail
  refine (RE.out _).mono ?_
  rintro e w2 ⟨rfl, hx2⟩
  have y2 := Lib.hid (y1.out.trans hx2)
  have c20 : w2.cell? ⟨w.heap.size, 0, none⟩ = some (.bool false) := (hx2.cell 0 q1).trans c10
  have f20 : w2.frozen? ⟨w.heap.size, 0, none⟩ = false := (hx2.froz 0 q1).trans f10
  have c21 : w2.cell? ⟨w.heap.size, 1, none⟩ = some (.string ⟨#[]⟩) := (hx2.cell 1 q1).trans c11
  have f21 : w2.frozen? ⟨w.heap.size, 1, none⟩ = false := (hx2.froz 1 q1).trans f11
  have c22 : w2.cell? ⟨w.heap.size, 2, none⟩ = some (.int .i64 0) := (hx2.cell 2 q1).trans c12
  have f22 : w2.frozen? ⟨w.heap.size, 2, none⟩ = false := (hx2.froz 2 q1).trans f12
  have q2 : w.heap.size < w2.heap.size := Nat.lt_of_lt_of_le q1 hx2.size
  clear c10 f10 c11 f11 c12 f12 hx2
  go_wp2_with fail
  refine (TZ.out _).mono ?_
  rintro e w3 ⟨rfl, hx3⟩
  have y3 := Lib.hid (y2.out.trans hx3)
  have c30 : w3.cell? ⟨w.heap.size, 0, none⟩ = some (.bool false) := (hx3.cell 0 q2).trans c20
  have f30 : w3.frozen? ⟨w.heap.size, 0, none⟩ = false := (hx3.froz 0 q2).trans f20
  have c31 : w3.cell? ⟨w.heap.size, 1, none⟩ = some (.string ⟨#[]⟩) := (hx3.cell 1 q2).trans c21
  have f31 : w3.frozen? ⟨w.heap.size, 1, none⟩ = false := (hx3.froz 1 q2).trans f21
  have c32 : w3.cell? ⟨w.heap.size, 2, none⟩ = some (.int .i64 0) := (hx3.cell 2 q2).trans c22
  have f32 : w3.frozen? ⟨w.heap.size, 2, none⟩ = false := (hx3.froz 2 q2).trans f22
  have q3 : w.heap.size < w3.heap.size := Nat.lt_of_lt_of_le q2 hx3.size
  clear c20 f20 c21 f21 c22 f22 hx3
  go_wp2
  refine bodyPost_ret (v := .tuple #[.agg #[.bool neg, .string (bs D), .int .i64 ex], .bool true]) ?_ rfl ⟨rfl, ?_⟩
  · simp [results, Tryz.results83, go_sem, c30, c31, c32]
  · repeat (first | with_reducible exact y3.out | with_reducible refine Ext.setCell ?_ (by simp) _)

set_option maxRecDepth 100000 in
set_option maxHeartbeats 1000000 in
theorem rd_s_no_bad (s s1 d s2 af ag D : List UInt8) (neg : Bool) (ex : Int) (hl : s.length ≤ 60) (hd : d ≠ []) (he1 : -10000 ≤ ex) (he2 : ex ≤ 10000) (hP1 : ∀ w, Calls Tryz.prog 103 #[.string (bs s), .string ⟨#[45]⟩] w fun e w' => e = .returned (.tuple #[.string (bs s1), .bool neg]) ∧ w = w') (hC1 : ∀ w, Calls Tryz.prog 104 #[.string (bs s1)] w fun e w' => e = .returned (.tuple #[.string (bs d), .string (bs s2)]) ∧ Ext w w') (hP2 : ∀ w, Calls Tryz.prog 103 #[.string (bs s2), .string ⟨#[46]⟩] w fun e w' => e = .returned (.tuple #[.string (bs af), .bool false]) ∧ w = w') (hP3 : ∀ w, Calls Tryz.prog 103 #[.string (bs s2), .string ⟨#[101]⟩] w fun e w' => e = .returned (.tuple #[.string (bs ag), .bool true]) ∧ w = w') (hRE : ∀ w, Calls Tryz.prog 105 #[.string (bs ag)] w fun e w' => e = .returned (.tuple #[.int .i64 ex, .bool false]) ∧ Ext w w') (hTZ : ∀ w, Calls Tryz.prog 106 #[.string (bs d), .string ⟨#[48]⟩] w fun e w' => e = .returned (.string (bs D)) ∧ Ext w w') (w : World) :
    Calls Tryz.prog 83 #[.string (bs s)] w fun e w' => e = .returned (.tuple #[.agg #[.bool neg, .string (bs D), .int .i64 ex], .bool false]) ∧ Ext w w' := by
  have zs : (bs s).size = s.length := rfl
  have hl2 : ¬ (60 : Int) < s.length := by omega
  obtain ⟨m1, m2⟩ := list_some hd
  have P1 := Lib.hid hP1
  have C1 := Lib.hid hC1
  have P2 := Lib.hid hP2
  have P3 := Lib.hid hP3
  have RE := Lib.hid hRE
  have TZ := Lib.hid hTZ
  clear hd hP1 hC1 hP2 hP3 hRE hTZ
  go_enter Tryz.func83, Tryz.ntmps83
  go_wp2_with fail
  refine (P1.out _).mono ?_
  rintro e w' ⟨rfl, rfl⟩
  go_wp2_with fail
  refine (C1.out _).mono ?_
  rintro e w1 ⟨rfl, hx1⟩
  have y1 := Lib.hid (((Ext.refl w).alloc (.cells #[.bool false, .string ⟨#[]⟩, .int .i64 0] 90)).trans hx1)
  have c10 : w1.cell? ⟨w.heap.size, 0, none⟩ = some (.bool false) := (hx1.cell 0 (by simp)).trans (by simp [go_sem])
  have f10 : w1.frozen? ⟨w.heap.size, 0, none⟩ = false := (hx1.froz 0 (by simp)).trans (by simp [go_sem])
  have c11 : w1.cell? ⟨w.heap.size, 1, none⟩ = some (.string ⟨#[]⟩) := (hx1.cell 1 (by simp)).trans (by simp [go_sem])
  have f11 : w1.frozen? ⟨w.heap.size, 1, none⟩ = false := (hx1.froz 1 (by simp)).trans (by simp [go_sem])
  have c12 : w1.cell? ⟨w.heap.size, 2, none⟩ = some (.int .i64 0) := (hx1.cell 2 (by simp)).trans (by simp [go_sem])
  have f12 : w1.frozen? ⟨w.heap.size, 2, none⟩ = false := (hx1.froz 2 (by simp)).trans (by simp [go_sem])
  have q1 : w.heap.size < w1.heap.size := by have := hx1.size; simp at this; omega
  go_wp2_with fail
  refine (P2.out _).mono ?_
  rintro e w' ⟨rfl, rfl⟩
  go_wp2_with fail
  refine (P3.out _).mono ?_
  rintro e w' ⟨rfl, rfl⟩
  go_wp2_with fail
  refine (RE.out _).mono ?_
  rintro e w2 ⟨rfl, hx2⟩
  have y2 := Lib.hid (y1.out.trans hx2)
  have c20 : w2.cell? ⟨w.heap.size, 0, none⟩ = some (.bool false) := (hx2.cell 0 q1).trans c10
  have f20 : w2.frozen? ⟨w.heap.size, 0, none⟩ = false := (hx2.froz 0 q1).trans f10
  have c21 : w2.cell? ⟨w.heap.size, 1, none⟩ = some (.string ⟨#[]⟩) := (hx2.cell 1 q1).trans c11
  have f21 : w2.frozen? ⟨w.heap.size, 1, none⟩ = false := (hx2.froz 1 q1).trans f11
  have c22 : w2.cell? ⟨w.heap.size, 2, none⟩ = some (.int .i64 0) := (hx2.cell 2 q1).trans c12
  have f22 : w2.frozen? ⟨w.heap.size, 2, none⟩ = false := (hx2.froz 2 q1).trans f12
  have q2 : w.heap.size < w2.heap.size := Nat.lt_of_lt_of_le q1 hx2.size
  clear c10 f10 c11 f11 c12 f12 hx2
  go_wp2_with fail
  refine (TZ.out _).mono ?_
  rintro e w3 ⟨rfl, hx3⟩
  have y3 := Lib.hid (y2.out.trans hx3)
  have c30 : w3.cell? ⟨w.heap.size, 0, none⟩ = some (.bool false) := (hx3.cell 0 q2).trans c20
  have f30 : w3.frozen? ⟨w.heap.size, 0, none⟩ = false := (hx3.froz 0 q2).trans f20
  have c31 : w3.cell? ⟨w.heap.size, 1, none⟩ = some (.string ⟨#[]⟩) := (hx3.cell 1 q2).trans c21
  have f31 : w3.frozen? ⟨w.heap.size, 1, none⟩ = false := (hx3.froz 1 q2).trans f21
  have c32 : w3.cell? ⟨w.heap.size, 2, none⟩ = some (.int .i64 0) := (hx3.cell 2 q2).trans c22
  have f32 : w3.frozen? ⟨w.heap.size, 2, none⟩ = false := (hx3.froz 2 q2).trans f22
  have q3 : w.heap.size < w3.heap.size := Nat.lt_of_lt_of_le q2 hx3.size
  clear c20 f20 c21 f21 c22 f22 hx3
  go_wp2
  refine bodyPost_ret (v := .tuple #[.agg #[.bool neg, .string (bs D), .int .i64 ex], .bool false]) ?_ rfl ⟨rfl, ?_⟩
  · simp [results, Tryz.results83, go_sem, c30, c31, c32]
  · repeat (first | with_reducible exact y3.out | with_reducible refine Ext.setCell ?_ (by simp) _)

set_option maxRecDepth 100000 in
set_option maxHeartbeats 1000000 in
theorem rd_s_some_end (s s1 d s2 af fr r ag D : List UInt8) (neg : Bool) (_ex : Int) (hl : s.length ≤ 60) (hd : d ≠ []) (hf : fr ≠ []) (hfl : fr.length ≤ 100) (hdl : d.length ≤ 100) (hg : r = []) (hP1 : ∀ w, Calls Tryz.prog 103 #[.string (bs s), .string ⟨#[45]⟩] w fun e w' => e = .returned (.tuple #[.string (bs s1), .bool neg]) ∧ w = w') (hC1 : ∀ w, Calls Tryz.prog 104 #[.string (bs s1)] w fun e w' => e = .returned (.tuple #[.string (bs d), .string (bs s2)]) ∧ Ext w w') (hP2 : ∀ w, Calls Tryz.prog 103 #[.string (bs s2), .string ⟨#[46]⟩] w fun e w' => e = .returned (.tuple #[.string (bs af), .bool true]) ∧ w = w') (hC2 : ∀ w, Calls Tryz.prog 104 #[.string (bs af)] w fun e w' => e = .returned (.tuple #[.string (bs fr), .string (bs r)]) ∧ Ext w w') (hP3 : ∀ w, Calls Tryz.prog 103 #[.string (bs r), .string ⟨#[101]⟩] w fun e w' => e = .returned (.tuple #[.string (bs ag), .bool false]) ∧ w = w') (hTZ : ∀ w, Calls Tryz.prog 106 #[.string (bs (d ++ fr)), .string ⟨#[48]⟩] w fun e w' => e = .returned (.string (bs D)) ∧ Ext w w') (w : World) :
    Calls Tryz.prog 83 #[.string (bs s)] w fun e w' => e = .returned (.tuple #[.agg #[.bool neg, .string (bs D), .int .i64 (-(fr.length : Int))], .bool true]) ∧ Ext w w' := by
  have zs : (bs s).size = s.length := rfl
  have hl2 : ¬ (60 : Int) < s.length := by omega
  obtain ⟨m1, m2⟩ := list_some hd
  obtain ⟨m3, m4⟩ := list_some hf
  have happ : bs d ++ bs fr = bs (d ++ fr) := bs_append d fr
  have z1 : (bs d).size = d.length := rfl
  have z2 : (bs fr).size = fr.length := rfl
  have hcat : ¬ 9223372036854775807 < d.length + fr.length := by omega
  have hcat2 : d.length + fr.length ≤ 9223372036854775807 := by omega
  have b3 : (fr.length : Int) ≤ 100 := by omega
  obtain ⟨m5, m6⟩ := list_none hg
  have P1 := Lib.hid hP1
  have C1 := Lib.hid hC1
  have P2 := Lib.hid hP2
  have C2 := Lib.hid hC2
  have P3 := Lib.hid hP3
  have TZ := Lib.hid hTZ
  clear hd hP1 hC1 hP2 hC2 hP3 hTZ hf hg
  go_enter Tryz.func83, Tryz.ntmps83
  go_wp2_with fail
  refine (P1.out _).mono ?_
  rintro e w' ⟨rfl, rfl⟩
  go_wp2_with fail
  refine (C1.out _).mono ?_
  rintro e w1 ⟨rfl, hx1⟩
  have y1 := Lib.hid (((Ext.refl w).alloc (.cells #[.bool false, .string ⟨#[]⟩, .int .i64 0] 90)).trans hx1)
  have c10 : w1.cell? ⟨w.heap.size, 0, none⟩ = some (.bool false) := (hx1.cell 0 (by simp)).trans (by simp [go_sem])
  have f10 : w1.frozen? ⟨w.heap.size, 0, none⟩ = false := (hx1.froz 0 (by simp)).trans (by simp [go_sem])
  have c11 : w1.cell? ⟨w.heap.size, 1, none⟩ = some (.string ⟨#[]⟩) := (hx1.cell 1 (by simp)).trans (by simp [go_sem])
  have f11 : w1.frozen? ⟨w.heap.size, 1, none⟩ = false := (hx1.froz 1 (by simp)).trans (by simp [go_sem])
  have c12 : w1.cell? ⟨w.heap.size, 2, none⟩ = some (.int .i64 0) := (hx1.cell 2 (by simp)).trans (by simp [go_sem])
  have f12 : w1.frozen? ⟨w.heap.size, 2, none⟩ = false := (hx1.froz 2 (by simp)).trans (by simp [go_sem])
  have q1 : w.heap.size < w1.heap.size := by have := hx1.size; simp at this; omega
  go_wp2_with fail
  refine (P2.out _).mono ?_
  rintro e w' ⟨rfl, rfl⟩
  go_wp2_with fail
  refine (C2.out _).mono ?_
  rintro e w2 ⟨rfl, hx2⟩
  have y2 := Lib.hid (y1.out.trans hx2)
  have c20 : w2.cell? ⟨w.heap.size, 0, none⟩ = some (.bool false) := (hx2.cell 0 q1).trans c10
  have f20 : w2.frozen? ⟨w.heap.size, 0, none⟩ = false := (hx2.froz 0 q1).trans f10
  have c21 : w2.cell? ⟨w.heap.size, 1, none⟩ = some (.string ⟨#[]⟩) := (hx2.cell 1 q1).trans c11
  have f21 : w2.frozen? ⟨w.heap.size, 1, none⟩ = false := (hx2.froz 1 q1).trans f11
  have c22 : w2.cell? ⟨w.heap.size, 2, none⟩ = some (.int .i64 0) := (hx2.cell 2 q1).trans c12
  have f22 : w2.frozen? ⟨w.heap.size, 2, none⟩ = false := (hx2.froz 2 q1).trans f12
  have q2 : w.heap.size < w2.heap.size := Nat.lt_of_lt_of_le q1 hx2.size
  clear c10 f10 c11 f11 c12 f12 hx2
  go_wp2_with fail
  refine (P3.out _).mono ?_
  rintro e w' ⟨rfl, rfl⟩
  go_wp2_with fail
  refine (TZ.out _).mono ?_
  rintro e w3 ⟨rfl, hx3⟩
  have y3 := Lib.hid (y2.out.trans hx3)
  have c30 : w3.cell? ⟨w.heap.size, 0, none⟩ = some (.bool false) := (hx3.cell 0 q2).trans c20
  have f30 : w3.frozen? ⟨w.heap.size, 0, none⟩ = false := (hx3.froz 0 q2).trans f20
  have c31 : w3.cell? ⟨w.heap.size, 1, none⟩ = some (.string ⟨#[]⟩) := (hx3.cell 1 q2).trans c21
  have f31 : w3.frozen? ⟨w.heap.size, 1, none⟩ = false := (hx3.froz 1 q2).trans f21
  have c32 : w3.cell? ⟨w.heap.size, 2, none⟩ = some (.int .i64 0) := (hx3.cell 2 q2).trans c22
  have f32 : w3.frozen? ⟨w.heap.size, 2, none⟩ = false := (hx3.froz 2 q2).trans f22
  have q3 : w.heap.size < w3.heap.size := Nat.lt_of_lt_of_le q2 hx3.size
  clear c20 f20 c21 f21 c22 f22 hx3
  go_wp2
  refine bodyPost_ret (v := .tuple #[.agg #[.bool neg, .string (bs D), .int .i64 (-(fr.length : Int))], .bool true]) ?_ rfl ⟨rfl, ?_⟩
  · simp [results, Tryz.results83, go_sem, c30, c31, c32]
  · repeat (first | with_reducible exact y3.out | with_reducible refine Ext.setCell ?_ (by simp) _)

set_option maxRecDepth 100000 in
set_option maxHeartbeats 1000000 in
theorem rd_s_some_more (s s1 d s2 af fr r ag D : List UInt8) (neg : Bool) (_ex : Int) (hl : s.length ≤ 60) (hd : d ≠ []) (hf : fr ≠ []) (hfl : fr.length ≤ 100) (hdl : d.length ≤ 100) (hg : r ≠ []) (hP1 : ∀ w, Calls Tryz.prog 103 #[.string (bs s), .string ⟨#[45]⟩] w fun e w' => e = .returned (.tuple #[.string (bs s1), .bool neg]) ∧ w = w') (hC1 : ∀ w, Calls Tryz.prog 104 #[.string (bs s1)] w fun e w' => e = .returned (.tuple #[.string (bs d), .string (bs s2)]) ∧ Ext w w') (hP2 : ∀ w, Calls Tryz.prog 103 #[.string (bs s2), .string ⟨#[46]⟩] w fun e w' => e = .returned (.tuple #[.string (bs af), .bool true]) ∧ w = w') (hC2 : ∀ w, Calls Tryz.prog 104 #[.string (bs af)] w fun e w' => e = .returned (.tuple #[.string (bs fr), .string (bs r)]) ∧ Ext w w') (hP3 : ∀ w, Calls Tryz.prog 103 #[.string (bs r), .string ⟨#[101]⟩] w fun e w' => e = .returned (.tuple #[.string (bs ag), .bool false]) ∧ w = w') (hTZ : ∀ w, Calls Tryz.prog 106 #[.string (bs (d ++ fr)), .string ⟨#[48]⟩] w fun e w' => e = .returned (.string (bs D)) ∧ Ext w w') (w : World) :
    Calls Tryz.prog 83 #[.string (bs s)] w fun e w' => e = .returned (.tuple #[.agg #[.bool neg, .string (bs D), .int .i64 (-(fr.length : Int))], .bool false]) ∧ Ext w w' := by
  have zs : (bs s).size = s.length := rfl
  have hl2 : ¬ (60 : Int) < s.length := by omega
  obtain ⟨m1, m2⟩ := list_some hd
  obtain ⟨m3, m4⟩ := list_some hf
  have happ : bs d ++ bs fr = bs (d ++ fr) := bs_append d fr
  have z1 : (bs d).size = d.length := rfl
  have z2 : (bs fr).size = fr.length := rfl
  have hcat : ¬ 9223372036854775807 < d.length + fr.length := by omega
  have hcat2 : d.length + fr.length ≤ 9223372036854775807 := by omega
  have b3 : (fr.length : Int) ≤ 100 := by omega
  obtain ⟨m5, m6⟩ := list_some hg
  have P1 := Lib.hid hP1
  have C1 := Lib.hid hC1
  have P2 := Lib.hid hP2
  have C2 := Lib.hid hC2
  have P3 := Lib.hid hP3
  have TZ := Lib.hid hTZ
  clear hd hP1 hC1 hP2 hC2 hP3 hTZ hf hg
  go_enter Tryz.func83, Tryz.ntmps83
  go_wp2_with fail
  refine (P1.out _).mono ?_
  rintro e w' ⟨rfl, rfl⟩
  go_wp2_with fail
  refine (C1.out _).mono ?_
  rintro e w1 ⟨rfl, hx1⟩
  have y1 := Lib.hid (((Ext.refl w).alloc (.cells #[.bool false, .string ⟨#[]⟩, .int .i64 0] 90)).trans hx1)
  have c10 : w1.cell? ⟨w.heap.size, 0, none⟩ = some (.bool false) := (hx1.cell 0 (by simp)).trans (by simp [go_sem])
  have f10 : w1.frozen? ⟨w.heap.size, 0, none⟩ = false := (hx1.froz 0 (by simp)).trans (by simp [go_sem])
  have c11 : w1.cell? ⟨w.heap.size, 1, none⟩ = some (.string ⟨#[]⟩) := (hx1.cell 1 (by simp)).trans (by simp [go_sem])
  have f11 : w1.frozen? ⟨w.heap.size, 1, none⟩ = false := (hx1.froz 1 (by simp)).trans (by simp [go_sem])
  have c12 : w1.cell? ⟨w.heap.size, 2, none⟩ = some (.int .i64 0) := (hx1.cell 2 (by simp)).trans (by simp [go_sem])
  have f12 : w1.frozen? ⟨w.heap.size, 2, none⟩ = false := (hx1.froz 2 (by simp)).trans (by simp [go_sem])
  have q1 : w.heap.size < w1.heap.size := by have := hx1.size; simp at this; omega
  go_wp2_with fail
  refine (P2.out _).mono ?_
  rintro e w' ⟨rfl, rfl⟩
  go_wp2_with fail
  refine (C2.out _).mono ?_
  rintro e w2 ⟨rfl, hx2⟩
  have y2 := Lib.hid (y1.out.trans hx2)
  have c20 : w2.cell? ⟨w.heap.size, 0, none⟩ = some (.bool false) := (hx2.cell 0 q1).trans c10
  have f20 : w2.frozen? ⟨w.heap.size, 0, none⟩ = false := (hx2.froz 0 q1).trans f10
  have c21 : w2.cell? ⟨w.heap.size, 1, none⟩ = some (.string ⟨#[]⟩) := (hx2.cell 1 q1).trans c11
  have f21 : w2.frozen? ⟨w.heap.size, 1, none⟩ = false := (hx2.froz 1 q1).trans f11
  have c22 : w2.cell? ⟨w.heap.size, 2, none⟩ = some (.int .i64 0) := (hx2.cell 2 q1).trans c12
  have f22 : w2.frozen? ⟨w.heap.size, 2, none⟩ = false := (hx2.froz 2 q1).trans f12
  have q2 : w.heap.size < w2.heap.size := Nat.lt_of_lt_of_le q1 hx2.size
  clear c10 f10 c11 f11 c12 f12 hx2
  go_wp2_with fail
  refine (P3.out _).mono ?_
  rintro e w' ⟨rfl, rfl⟩
  go_wp2_with fail
  refine (TZ.out _).mono ?_
  rintro e w3 ⟨rfl, hx3⟩
  have y3 := Lib.hid (y2.out.trans hx3)
  have c30 : w3.cell? ⟨w.heap.size, 0, none⟩ = some (.bool false) := (hx3.cell 0 q2).trans c20
  have f30 : w3.frozen? ⟨w.heap.size, 0, none⟩ = false := (hx3.froz 0 q2).trans f20
  have c31 : w3.cell? ⟨w.heap.size, 1, none⟩ = some (.string ⟨#[]⟩) := (hx3.cell 1 q2).trans c21
  have f31 : w3.frozen? ⟨w.heap.size, 1, none⟩ = false := (hx3.froz 1 q2).trans f21
  have c32 : w3.cell? ⟨w.heap.size, 2, none⟩ = some (.int .i64 0) := (hx3.cell 2 q2).trans c22
  have f32 : w3.frozen? ⟨w.heap.size, 2, none⟩ = false := (hx3.froz 2 q2).trans f22
  have q3 : w.heap.size < w3.heap.size := Nat.lt_of_lt_of_le q2 hx3.size
  clear c20 f20 c21 f21 c22 f22 hx3
  go_wp2
  refine bodyPost_ret (v := .tuple #[.agg #[.bool neg, .string (bs D), .int .i64 (-(fr.length : Int))], .bool false]) ?_ rfl ⟨rfl, ?_⟩
  · simp [results, Tryz.results83, go_sem, c30, c31, c32]
  · repeat (first | with_reducible exact y3.out | with_reducible refine Ext.setCell ?_ (by simp) _)

set_option maxRecDepth 100000 in
set_option maxHeartbeats 1000000 in
theorem rd_s_some_exp (s s1 d s2 af fr r ag D : List UInt8) (neg : Bool) (ex : Int) (hl : s.length ≤ 60) (hd : d ≠ []) (hf : fr ≠ []) (hfl : fr.length ≤ 100) (hdl : d.length ≤ 100) (he1 : -10000 ≤ ex) (he2 : ex ≤ 10000) (hP1 : ∀ w, Calls Tryz.prog 103 #[.string (bs s), .string ⟨#[45]⟩] w fun e w' => e = .returned (.tuple #[.string (bs s1), .bool neg]) ∧ w = w') (hC1 : ∀ w, Calls Tryz.prog 104 #[.string (bs s1)] w fun e w' => e = .returned (.tuple #[.string (bs d), .string (bs s2)]) ∧ Ext w w') (hP2 : ∀ w, Calls Tryz.prog 103 #[.string (bs s2), .string ⟨#[46]⟩] w fun e w' => e = .returned (.tuple #[.string (bs af), .bool true]) ∧ w = w') (hC2 : ∀ w, Calls Tryz.prog 104 #[.string (bs af)] w fun e w' => e = .returned (.tuple #[.string (bs fr), .string (bs r)]) ∧ Ext w w') (hP3 : ∀ w, Calls Tryz.prog 103 #[.string (bs r), .string ⟨#[101]⟩] w fun e w' => e = .returned (.tuple #[.string (bs ag), .bool true]) ∧ w = w') (hRE : ∀ w, Calls Tryz.prog 105 #[.string (bs ag)] w fun e w' => e = .returned (.tuple #[.int .i64 ex, .bool true]) ∧ Ext w w') (hTZ : ∀ w, Calls Tryz.prog 106 #[.string (bs (d ++ fr)), .string ⟨#[48]⟩] w fun e w' => e = .returned (.string (bs D)) ∧ Ext w w') (w : World) :
    Calls Tryz.prog 83 #[.string (bs s)] w fun e w' => e = .returned (.tuple #[.agg #[.bool neg, .string (bs D), .int .i64 ((-(fr.length : Int)) + ex)], .bool true]) ∧ Ext w w' := by
  have zs : (bs s).size = s.length := rfl
  have hl2 : ¬ (60 : Int) < s.length := by omega
  obtain ⟨m1, m2⟩ := list_some hd
  obtain ⟨m3, m4⟩ := list_some hf
  have happ : bs d ++ bs fr = bs (d ++ fr) := bs_append d fr
  have z1 : (bs d).size = d.length := rfl
  have z2 : (bs fr).size = fr.length := rfl
  have hcat : ¬ 9223372036854775807 < d.length + fr.length := by omega
  have hcat2 : d.length + fr.length ≤ 9223372036854775807 := by omega
  have b3 : (fr.length : Int) ≤ 100 := by omega
  have P1 := Lib.hid hP1
  have C1 := Lib.hid hC1
  have P2 := Lib.hid hP2
  have C2 := Lib.hid hC2
  have P3 := Lib.hid hP3
  have RE := Lib.hid hRE
  have TZ := Lib.hid hTZ
  clear hd hP1 hC1 hP2 hC2 hP3 hRE hTZ hf
  go_enter Tryz.func83, Tryz.ntmps83
  go_wp2_with fail
  refine (P1.out _).mono ?_
  rintro e w' ⟨rfl, rfl⟩
  go_wp2_with fail
  refine (C1.out _).mono ?_
  rintro e w1 ⟨rfl, hx1⟩
  have y1 := Lib.hid (((Ext.refl w).alloc (.cells #[.bool false, .string ⟨#[]⟩, .int .i64 0] 90)).trans hx1)
  have c10 : w1.cell? ⟨w.heap.size, 0, none⟩ = some (.bool false) := (hx1.cell 0 (by simp)).trans (by simp [go_sem])
  have f10 : w1.frozen? ⟨w.heap.size, 0, none⟩ = false := (hx1.froz 0 (by simp)).trans (by simp [go_sem])
  have c11 : w1.cell? ⟨w.heap.size, 1, none⟩ = some (.string ⟨#[]⟩) := (hx1.cell 1 (by simp)).trans (by simp [go_sem])
  have f11 : w1.frozen? ⟨w.heap.size, 1, none⟩ = false := (hx1.froz 1 (by simp)).trans (by simp [go_sem])
  have c12 : w1.cell? ⟨w.heap.size, 2, none⟩ = some (.int .i64 0) := (hx1.cell 2 (by simp)).trans (by simp [go_sem])
  have f12 : w1.frozen? ⟨w.heap.size, 2, none⟩ = false := (hx1.froz 2 (by simp)).trans (by simp [go_sem])
  have q1 : w.heap.size < w1.heap.size := by have := hx1.size; simp at this; omega
  go_wp2_with fail
  refine (P2.out _).mono ?_
  rintro e w' ⟨rfl, rfl⟩
  go_wp2_with fail
  refine (C2.out _).mono ?_
  rintro e w2 ⟨rfl, hx2⟩
  have y2 := Lib.hid (y1.out.trans hx2)
  have c20 : w2.cell? ⟨w.heap.size, 0, none⟩ = some (.bool false) := (hx2.cell 0 q1).trans c10
  have f20 : w2.frozen? ⟨w.heap.size, 0, none⟩ = false := (hx2.froz 0 q1).trans f10
  have c21 : w2.cell? ⟨w.heap.size, 1, none⟩ = some (.string ⟨#[]⟩) := (hx2.cell 1 q1).trans c11
  have f21 : w2.frozen? ⟨w.heap.size, 1, none⟩ = false := (hx2.froz 1 q1).trans f11
  have c22 : w2.cell? ⟨w.heap.size, 2, none⟩ = some (.int .i64 0) := (hx2.cell 2 q1).trans c12
  have f22 : w2.frozen? ⟨w.heap.size, 2, none⟩ = false := (hx2.froz 2 q1).trans f12
  have q2 : w.heap.size < w2.heap.size := Nat.lt_of_lt_of_le q1 hx2.size
  clear c10 f10 c11 f11 c12 f12 hx2
  go_wp2_with fail
  refine (P3.out _).mono ?_
  rintro e w' ⟨rfl, rfl⟩
  go_wp2_with fail
  refine (RE.out _).mono ?_
  rintro e w3 ⟨rfl, hx3⟩
  have y3 := Lib.hid (y2.out.trans hx3)
  have c30 : w3.cell? ⟨w.heap.size, 0, none⟩ = some (.bool false) := (hx3.cell 0 q2).trans c20
  have f30 : w3.frozen? ⟨w.heap.size, 0, none⟩ = false := (hx3.froz 0 q2).trans f20
  have c31 : w3.cell? ⟨w.heap.size, 1, none⟩ = some (.string ⟨#[]⟩) := (hx3.cell 1 q2).trans c21
  have f31 : w3.frozen? ⟨w.heap.size, 1, none⟩ = false := (hx3.froz 1 q2).trans f21
  have c32 : w3.cell? ⟨w.heap.size, 2, none⟩ = some (.int .i64 0) := (hx3.cell 2 q2).trans c22
  have f32 : w3.frozen? ⟨w.heap.size, 2, none⟩ = false := (hx3.froz 2 q2).trans f22
  have q3 : w.heap.size < w3.heap.size := Nat.lt_of_lt_of_le q2 hx3.size
  clear c20 f20 c21 f21 c22 f22 hx3
  go_wp2_with fail
  refine (TZ.out _).mono ?_
  rintro e w4 ⟨rfl, hx4⟩
  have y4 := Lib.hid (y3.out.trans hx4)
  have c40 : w4.cell? ⟨w.heap.size, 0, none⟩ = some (.bool false) := (hx4.cell 0 q3).trans c30
  have f40 : w4.frozen? ⟨w.heap.size, 0, none⟩ = false := (hx4.froz 0 q3).trans f30
  have c41 : w4.cell? ⟨w.heap.size, 1, none⟩ = some (.string ⟨#[]⟩) := (hx4.cell 1 q3).trans c31
  have f41 : w4.frozen? ⟨w.heap.size, 1, none⟩ = false := (hx4.froz 1 q3).trans f31
  have c42 : w4.cell? ⟨w.heap.size, 2, none⟩ = some (.int .i64 0) := (hx4.cell 2 q3).trans c32
  have f42 : w4.frozen? ⟨w.heap.size, 2, none⟩ = false := (hx4.froz 2 q3).trans f32
  have q4 : w.heap.size < w4.heap.size := Nat.lt_of_lt_of_le q3 hx4.size
  clear c30 f30 c31 f31 c32 f32 hx4
  go_wp2
  refine bodyPost_ret (v := .tuple #[.agg #[.bool neg, .string (bs D), .int .i64 ((-(fr.length : Int)) + ex)], .bool true]) ?_ rfl ⟨rfl, ?_⟩
  · simp [results, Tryz.results83, go_sem, c40, c41, c42]
  · repeat (first | with_reducible exact y4.out | with_reducible refine Ext.setCell ?_ (by simp) _)

set_option maxRecDepth 100000 in
set_option maxHeartbeats 1000000 in
theorem rd_s_some_bad (s s1 d s2 af fr r ag D : List UInt8) (neg : Bool) (ex : Int) (hl : s.length ≤ 60) (hd : d ≠ []) (hf : fr ≠ []) (hfl : fr.length ≤ 100) (hdl : d.length ≤ 100) (he1 : -10000 ≤ ex) (he2 : ex ≤ 10000) (hP1 : ∀ w, Calls Tryz.prog 103 #[.string (bs s), .string ⟨#[45]⟩] w fun e w' => e = .returned (.tuple #[.string (bs s1), .bool neg]) ∧ w = w') (hC1 : ∀ w, Calls Tryz.prog 104 #[.string (bs s1)] w fun e w' => e = .returned (.tuple #[.string (bs d), .string (bs s2)]) ∧ Ext w w') (hP2 : ∀ w, Calls Tryz.prog 103 #[.string (bs s2), .string ⟨#[46]⟩] w fun e w' => e = .returned (.tuple #[.string (bs af), .bool true]) ∧ w = w') (hC2 : ∀ w, Calls Tryz.prog 104 #[.string (bs af)] w fun e w' => e = .returned (.tuple #[.string (bs fr), .string (bs r)]) ∧ Ext w w') (hP3 : ∀ w, Calls Tryz.prog 103 #[.string (bs r), .string ⟨#[101]⟩] w fun e w' => e = .returned (.tuple #[.string (bs ag), .bool true]) ∧ w = w') (hRE : ∀ w, Calls Tryz.prog 105 #[.string (bs ag)] w fun e w' => e = .returned (.tuple #[.int .i64 ex, .bool false]) ∧ Ext w w') (hTZ : ∀ w, Calls Tryz.prog 106 #[.string (bs (d ++ fr)), .string ⟨#[48]⟩] w fun e w' => e = .returned (.string (bs D)) ∧ Ext w w') (w : World) :
    Calls Tryz.prog 83 #[.string (bs s)] w fun e w' => e = .returned (.tuple #[.agg #[.bool neg, .string (bs D), .int .i64 ((-(fr.length : Int)) + ex)], .bool false]) ∧ Ext w w' := by
  have zs : (bs s).size = s.length := rfl
  have hl2 : ¬ (60 : Int) < s.length := by omega
  obtain ⟨m1, m2⟩ := list_some hd
  obtain ⟨m3, m4⟩ := list_some hf
  have happ : bs d ++ bs fr = bs (d ++ fr) := bs_append d fr
  have z1 : (bs d).size = d.length := rfl
  have z2 : (bs fr).size = fr.length := rfl
  have hcat : ¬ 9223372036854775807 < d.length + fr.length := by omega
  have hcat2 : d.length + fr.length ≤ 9223372036854775807 := by omega
  have b3 : (fr.length : Int) ≤ 100 := by omega
  have P1 := Lib.hid hP1
  have C1 := Lib.hid hC1
  have P2 := Lib.hid hP2
  have C2 := Lib.hid hC2
  have P3 := Lib.hid hP3
  have RE := Lib.hid hRE
  have TZ := Lib.hid hTZ
  clear hd hP1 hC1 hP2 hC2 hP3 hRE hTZ hf
  go_enter Tryz.func83, Tryz.ntmps83
  go_wp2_with fail
  refine (P1.out _).mono ?_
  rintro e w' ⟨rfl, rfl⟩
  go_wp2_with fail
  refine (C1.out _).mono ?_
  rintro e w1 ⟨rfl, hx1⟩
  have y1 := Lib.hid (((Ext.refl w).alloc (.cells #[.bool false, .string ⟨#[]⟩, .int .i64 0] 90)).trans hx1)
  have c10 : w1.cell? ⟨w.heap.size, 0, none⟩ = some (.bool false) := (hx1.cell 0 (by simp)).trans (by simp [go_sem])
  have f10 : w1.frozen? ⟨w.heap.size, 0, none⟩ = false := (hx1.froz 0 (by simp)).trans (by simp [go_sem])
  have c11 : w1.cell? ⟨w.heap.size, 1, none⟩ = some (.string ⟨#[]⟩) := (hx1.cell 1 (by simp)).trans (by simp [go_sem])
  have f11 : w1.frozen? ⟨w.heap.size, 1, none⟩ = false := (hx1.froz 1 (by simp)).trans (by simp [go_sem])
  have c12 : w1.cell? ⟨w.heap.size, 2, none⟩ = some (.int .i64 0) := (hx1.cell 2 (by simp)).trans (by simp [go_sem])
  have f12 : w1.frozen? ⟨w.heap.size, 2, none⟩ = false := (hx1.froz 2 (by simp)).trans (by simp [go_sem])
  have q1 : w.heap.size < w1.heap.size := by have := hx1.size; simp at this; omega
  go_wp2_with fail
  refine (P2.out _).mono ?_
  rintro e w' ⟨rfl, rfl⟩
  go_wp2_with fail
  refine (C2.out _).mono ?_
  rintro e w2 ⟨rfl, hx2⟩
  have y2 := Lib.hid (y1.out.trans hx2)
  have c20 : w2.cell? ⟨w.heap.size, 0, none⟩ = some (.bool false) := (hx2.cell 0 q1).trans c10
  have f20 : w2.frozen? ⟨w.heap.size, 0, none⟩ = false := (hx2.froz 0 q1).trans f10
  have c21 : w2.cell? ⟨w.heap.size, 1, none⟩ = some (.string ⟨#[]⟩) := (hx2.cell 1 q1).trans c11
  have f21 : w2.frozen? ⟨w.heap.size, 1, none⟩ = false := (hx2.froz 1 q1).trans f11
  have c22 : w2.cell? ⟨w.heap.size, 2, none⟩ = some (.int .i64 0) := (hx2.cell 2 q1).trans c12
  have f22 : w2.frozen? ⟨w.heap.size, 2, none⟩ = false := (hx2.froz 2 q1).trans f12
  have q2 : w.heap.size < w2.heap.size := Nat.lt_of_lt_of_le q1 hx2.size
  clear c10 f10 c11 f11 c12 f12 hx2
  go_wp2_with fail
  refine (P3.out _).mono ?_
  rintro e w' ⟨rfl, rfl⟩
  go_wp2_with fail
  refine (RE.out _).mono ?_
  rintro e w3 ⟨rfl, hx3⟩
  have y3 := Lib.hid (y2.out.trans hx3)
  have c30 : w3.cell? ⟨w.heap.size, 0, none⟩ = some (.bool false) := (hx3.cell 0 q2).trans c20
  have f30 : w3.frozen? ⟨w.heap.size, 0, none⟩ = false := (hx3.froz 0 q2).trans f20
  have c31 : w3.cell? ⟨w.heap.size, 1, none⟩ = some (.string ⟨#[]⟩) := (hx3.cell 1 q2).trans c21
  have f31 : w3.frozen? ⟨w.heap.size, 1, none⟩ = false := (hx3.froz 1 q2).trans f21
  have c32 : w3.cell? ⟨w.heap.size, 2, none⟩ = some (.int .i64 0) := (hx3.cell 2 q2).trans c22
  have f32 : w3.frozen? ⟨w.heap.size, 2, none⟩ = false := (hx3.froz 2 q2).trans f22
  have q3 : w.heap.size < w3.heap.size := Nat.lt_of_lt_of_le q2 hx3.size
  clear c20 f20 c21 f21 c22 f22 hx3
  go_wp2_with fail
  refine (TZ.out _).mono ?_
  rintro e w4 ⟨rfl, hx4⟩
  have y4 := Lib.hid (y3.out.trans hx4)
  have c40 : w4.cell? ⟨w.heap.size, 0, none⟩ = some (.bool false) := (hx4.cell 0 q3).trans c30
  have f40 : w4.frozen? ⟨w.heap.size, 0, none⟩ = false := (hx4.froz 0 q3).trans f30
  have c41 : w4.cell? ⟨w.heap.size, 1, none⟩ = some (.string ⟨#[]⟩) := (hx4.cell 1 q3).trans c31
  have f41 : w4.frozen? ⟨w.heap.size, 1, none⟩ = false := (hx4.froz 1 q3).trans f31
  have c42 : w4.cell? ⟨w.heap.size, 2, none⟩ = some (.int .i64 0) := (hx4.cell 2 q3).trans c32
  have f42 : w4.frozen? ⟨w.heap.size, 2, none⟩ = false := (hx4.froz 2 q3).trans f32
  have q4 : w.heap.size < w4.heap.size := Nat.lt_of_lt_of_le q3 hx4.size
  clear c30 f30 c31 f31 c32 f32 hx4
  go_wp2
  refine bodyPost_ret (v := .tuple #[.agg #[.bool neg, .string (bs D), .int .i64 ((-(fr.length : Int)) + ex)], .bool false]) ?_ rfl ⟨rfl, ?_⟩
  · simp [results, Tryz.results83, go_sem, c40, c41, c42]
  · repeat (first | with_reducible exact y4.out | with_reducible refine Ext.setCell ?_ (by simp) _)

set_option maxRecDepth 100000 in
set_option maxHeartbeats 1000000 in
theorem rd_s_none_end (s s1 d s2 af fr r ag D : List UInt8) (neg : Bool) (_ex : Int) (hl : s.length ≤ 60) (hd : d ≠ []) (hf : fr = []) (hfl : fr.length ≤ 100) (hdl : d.length ≤ 100) (hg : r = []) (hP1 : ∀ w, Calls Tryz.prog 103 #[.string (bs s), .string ⟨#[45]⟩] w fun e w' => e = .returned (.tuple #[.string (bs s1), .bool neg]) ∧ w = w') (hC1 : ∀ w, Calls Tryz.prog 104 #[.string (bs s1)] w fun e w' => e = .returned (.tuple #[.string (bs d), .string (bs s2)]) ∧ Ext w w') (hP2 : ∀ w, Calls Tryz.prog 103 #[.string (bs s2), .string ⟨#[46]⟩] w fun e w' => e = .returned (.tuple #[.string (bs af), .bool true]) ∧ w = w') (hC2 : ∀ w, Calls Tryz.prog 104 #[.string (bs af)] w fun e w' => e = .returned (.tuple #[.string (bs fr), .string (bs r)]) ∧ Ext w w') (hP3 : ∀ w, Calls Tryz.prog 103 #[.string (bs r), .string ⟨#[101]⟩] w fun e w' => e = .returned (.tuple #[.string (bs ag), .bool false]) ∧ w = w') (hTZ : ∀ w, Calls Tryz.prog 106 #[.string (bs (d ++ fr)), .string ⟨#[48]⟩] w fun e w' => e = .returned (.string (bs D)) ∧ Ext w w') (w : World) :
    Calls Tryz.prog 83 #[.string (bs s)] w fun e w' => e = .returned (.tuple #[.agg #[.bool neg, .string (bs D), .int .i64 (-(fr.length : Int))], .bool false]) ∧ Ext w w' := by
  have zs : (bs s).size = s.length := rfl
  have hl2 : ¬ (60 : Int) < s.length := by omega
  obtain ⟨m1, m2⟩ := list_some hd
  obtain ⟨m3, m4⟩ := list_none hf
  have happ : bs d ++ bs fr = bs (d ++ fr) := bs_append d fr
  have z1 : (bs d).size = d.length := rfl
  have z2 : (bs fr).size = fr.length := rfl
  have hcat : ¬ 9223372036854775807 < d.length + fr.length := by omega
  have hcat2 : d.length + fr.length ≤ 9223372036854775807 := by omega
  have b3 : (fr.length : Int) ≤ 100 := by omega
  obtain ⟨m5, m6⟩ := list_none hg
  have P1 := Lib.hid hP1
  have C1 := Lib.hid hC1
  have P2 := Lib.hid hP2
  have C2 := Lib.hid hC2
  have P3 := Lib.hid hP3
  have TZ := Lib.hid hTZ
  clear hd hP1 hC1 hP2 hC2 hP3 hTZ hf hg
  go_enter Tryz.func83, Tryz.ntmps83
  go_wp2_with fail
  refine (P1.out _).mono ?_
  rintro e w' ⟨rfl, rfl⟩
  go_wp2_with fail
  refine (C1.out _).mono ?_
  rintro e w1 ⟨rfl, hx1⟩
  have y1 := Lib.hid (((Ext.refl w).alloc (.cells #[.bool false, .string ⟨#[]⟩, .int .i64 0] 90)).trans hx1)
  have c10 : w1.cell? ⟨w.heap.size, 0, none⟩ = some (.bool false) := (hx1.cell 0 (by simp)).trans (by simp [go_sem])
  have f10 : w1.frozen? ⟨w.heap.size, 0, none⟩ = false := (hx1.froz 0 (by simp)).trans (by simp [go_sem])
  have c11 : w1.cell? ⟨w.heap.size, 1, none⟩ = some (.string ⟨#[]⟩) := (hx1.cell 1 (by simp)).trans (by simp [go_sem])
  have f11 : w1.frozen? ⟨w.heap.size, 1, none⟩ = false := (hx1.froz 1 (by simp)).trans (by simp [go_sem])
  have c12 : w1.cell? ⟨w.heap.size, 2, none⟩ = some (.int .i64 0) := (hx1.cell 2 (by simp)).trans (by simp [go_sem])
  have f12 : w1.frozen? ⟨w.heap.size, 2, none⟩ = false := (hx1.froz 2 (by simp)).trans (by simp [go_sem])
  have q1 : w.heap.size < w1.heap.size := by have := hx1.size; simp at this; omega
  go_wp2_with fail
  refine (P2.out _).mono ?_
  rintro e w' ⟨rfl, rfl⟩
  go_wp2_with fail
  refine (C2.out _).mono ?_
  rintro e w2 ⟨rfl, hx2⟩
  have y2 := Lib.hid (y1.out.trans hx2)
  have c20 : w2.cell? ⟨w.heap.size, 0, none⟩ = some (.bool false) := (hx2.cell 0 q1).trans c10
  have f20 : w2.frozen? ⟨w.heap.size, 0, none⟩ = false := (hx2.froz 0 q1).trans f10
  have c21 : w2.cell? ⟨w.heap.size, 1, none⟩ = some (.string ⟨#[]⟩) := (hx2.cell 1 q1).trans c11
  have f21 : w2.frozen? ⟨w.heap.size, 1, none⟩ = false := (hx2.froz 1 q1).trans f11
  have c22 : w2.cell? ⟨w.heap.size, 2, none⟩ = some (.int .i64 0) := (hx2.cell 2 q1).trans c12
  have f22 : w2.frozen? ⟨w.heap.size, 2, none⟩ = false := (hx2.froz 2 q1).trans f12
  have q2 : w.heap.size < w2.heap.size := Nat.lt_of_lt_of_le q1 hx2.size
  clear c10 f10 c11 f11 c12 f12 hx2
  go_wp2_with fail
  refine (P3.out _).mono ?_
  rintro e w' ⟨rfl, rfl⟩
  go_wp2_with fail
  refine (TZ.out _).mono ?_
  rintro e w3 ⟨rfl, hx3⟩
  have y3 := Lib.hid (y2.out.trans hx3)
  have c30 : w3.cell? ⟨w.heap.size, 0, none⟩ = some (.bool false) := (hx3.cell 0 q2).trans c20
  have f30 : w3.frozen? ⟨w.heap.size, 0, none⟩ = false := (hx3.froz 0 q2).trans f20
  have c31 : w3.cell? ⟨w.heap.size, 1, none⟩ = some (.string ⟨#[]⟩) := (hx3.cell 1 q2).trans c21
  have f31 : w3.frozen? ⟨w.heap.size, 1, none⟩ = false := (hx3.froz 1 q2).trans f21
  have c32 : w3.cell? ⟨w.heap.size, 2, none⟩ = some (.int .i64 0) := (hx3.cell 2 q2).trans c22
  have f32 : w3.frozen? ⟨w.heap.size, 2, none⟩ = false := (hx3.froz 2 q2).trans f22
  have q3 : w.heap.size < w3.heap.size := Nat.lt_of_lt_of_le q2 hx3.size
  clear c20 f20 c21 f21 c22 f22 hx3
  go_wp2
  refine bodyPost_ret (v := .tuple #[.agg #[.bool neg, .string (bs D), .int .i64 (-(fr.length : Int))], .bool false]) ?_ rfl ⟨rfl, ?_⟩
  · simp [results, Tryz.results83, go_sem, c30, c31, c32]
  · repeat (first | with_reducible exact y3.out | with_reducible refine Ext.setCell ?_ (by simp) _)

set_option maxRecDepth 100000 in
set_option maxHeartbeats 1000000 in
theorem rd_s_none_more (s s1 d s2 af fr r ag D : List UInt8) (neg : Bool) (_ex : Int) (hl : s.length ≤ 60) (hd : d ≠ []) (hf : fr = []) (hfl : fr.length ≤ 100) (hdl : d.length ≤ 100) (hg : r ≠ []) (hP1 : ∀ w, Calls Tryz.prog 103 #[.string (bs s), .string ⟨#[45]⟩] w fun e w' => e = .returned (.tuple #[.string (bs s1), .bool neg]) ∧ w = w') (hC1 : ∀ w, Calls Tryz.prog 104 #[.string (bs s1)] w fun e w' => e = .returned (.tuple #[.string (bs d), .string (bs s2)]) ∧ Ext w w') (hP2 : ∀ w, Calls Tryz.prog 103 #[.string (bs s2), .string ⟨#[46]⟩] w fun e w' => e = .returned (.tuple #[.string (bs af), .bool true]) ∧ w = w') (hC2 : ∀ w, Calls Tryz.prog 104 #[.string (bs af)] w fun e w' => e = .returned (.tuple #[.string (bs fr), .string (bs r)]) ∧ Ext w w') (hP3 : ∀ w, Calls Tryz.prog 103 #[.string (bs r), .string ⟨#[101]⟩] w fun e w' => e = .returned (.tuple #[.string (bs ag), .bool false]) ∧ w = w') (hTZ : ∀ w, Calls Tryz.prog 106 #[.string (bs (d ++ fr)), .string ⟨#[48]⟩] w fun e w' => e = .returned (.string (bs D)) ∧ Ext w w') (w : World) :
    Calls Tryz.prog 83 #[.string (bs s)] w fun e w' => e = .returned (.tuple #[.agg #[.bool neg, .string (bs D), .int .i64 (-(fr.length : Int))], .bool false]) ∧ Ext w w' := by
  have zs : (bs s).size = s.length := rfl
  have hl2 : ¬ (60 : Int) < s.length := by omega
  obtain ⟨m1, m2⟩ := list_some hd
  obtain ⟨m3, m4⟩ := list_none hf
  have happ : bs d ++ bs fr = bs (d ++ fr) := bs_append d fr
  have z1 : (bs d).size = d.length := rfl
  have z2 : (bs fr).size = fr.length := rfl
  have hcat : ¬ 9223372036854775807 < d.length + fr.length := by omega
  have hcat2 : d.length + fr.length ≤ 9223372036854775807 := by omega
  have b3 : (fr.length : Int) ≤ 100 := by omega
  obtain ⟨m5, m6⟩ := list_some hg
  have P1 := Lib.hid hP1
  have C1 := Lib.hid hC1
  have P2 := Lib.hid hP2
  have C2 := Lib.hid hC2
  have P3 := Lib.hid hP3
  have TZ := Lib.hid hTZ
  clear hd hP1 hC1 hP2 hC2 hP3 hTZ hf hg
  go_enter Tryz.func83, Tryz.ntmps83
  go_wp2_with fail
  refine (P1.out _).mono ?_
  rintro e w' ⟨rfl, rfl⟩
  go_wp2_with fail
  refine (C1.out _).mono ?_
  rintro e w1 ⟨rfl, hx1⟩
  have y1 := Lib.hid (((Ext.refl w).alloc (.cells #[.bool false, .string ⟨#[]⟩, .int .i64 0] 90)).trans hx1)
  have c10 : w1.cell? ⟨w.heap.size, 0, none⟩ = some (.bool false) := (hx1.cell 0 (by simp)).trans (by simp [go_sem])
  have f10 : w1.frozen? ⟨w.heap.size, 0, none⟩ = false := (hx1.froz 0 (by simp)).trans (by simp [go_sem])
  have c11 : w1.cell? ⟨w.heap.size, 1, none⟩ = some (.string ⟨#[]⟩) := (hx1.cell 1 (by simp)).trans (by simp [go_sem])
  have f11 : w1.frozen? ⟨w.heap.size, 1, none⟩ = false := (hx1.froz 1 (by simp)).trans (by simp [go_sem])
  have c12 : w1.cell? ⟨w.heap.size, 2, none⟩ = some (.int .i64 0) := (hx1.cell 2 (by simp)).trans (by simp [go_sem])
  have f12 : w1.frozen? ⟨w.heap.size, 2, none⟩ = false := (hx1.froz 2 (by simp)).trans (by simp [go_sem])
  have q1 : w.heap.size < w1.heap.size := by have := hx1.size; simp at this; omega
  go_wp2_with fail
  refine (P2.out _).mono ?_
  rintro e w' ⟨rfl, rfl⟩
  go_wp2_with fail
  refine (C2.out _).mono ?_
  rintro e w2 ⟨rfl, hx2⟩
  have y2 := Lib.hid (y1.out.trans hx2)
  have c20 : w2.cell? ⟨w.heap.size, 0, none⟩ = some (.bool false) := (hx2.cell 0 q1).trans c10
  have f20 : w2.frozen? ⟨w.heap.size, 0, none⟩ = false := (hx2.froz 0 q1).trans f10
  have c21 : w2.cell? ⟨w.heap.size, 1, none⟩ = some (.string ⟨#[]⟩) := (hx2.cell 1 q1).trans c11
  have f21 : w2.frozen? ⟨w.heap.size, 1, none⟩ = false := (hx2.froz 1 q1).trans f11
  have c22 : w2.cell? ⟨w.heap.size, 2, none⟩ = some (.int .i64 0) := (hx2.cell 2 q1).trans c12
  have f22 : w2.frozen? ⟨w.heap.size, 2, none⟩ = false := (hx2.froz 2 q1).trans f12
  have q2 : w.heap.size < w2.heap.size := Nat.lt_of_lt_of_le q1 hx2.size
  clear c10 f10 c11 f11 c12 f12 hx2
  go_wp2_with fail
  refine (P3.out _).mono ?_
  rintro e w' ⟨rfl, rfl⟩
  go_wp2_with fail
  refine (TZ.out _).mono ?_
  rintro e w3 ⟨rfl, hx3⟩
  have y3 := Lib.hid (y2.out.trans hx3)
  have c30 : w3.cell? ⟨w.heap.size, 0, none⟩ = some (.bool false) := (hx3.cell 0 q2).trans c20
  have f30 : w3.frozen? ⟨w.heap.size, 0, none⟩ = false := (hx3.froz 0 q2).trans f20
  have c31 : w3.cell? ⟨w.heap.size, 1, none⟩ = some (.string ⟨#[]⟩) := (hx3.cell 1 q2).trans c21
  have f31 : w3.frozen? ⟨w.heap.size, 1, none⟩ = false := (hx3.froz 1 q2).trans f21
  have c32 : w3.cell? ⟨w.heap.size, 2, none⟩ = some (.int .i64 0) := (hx3.cell 2 q2).trans c22
  have f32 : w3.frozen? ⟨w.heap.size, 2, none⟩ = false := (hx3.froz 2 q2).trans f22
  have q3 : w.heap.size < w3.heap.size := Nat.lt_of_lt_of_le q2 hx3.size
  clear c20 f20 c21 f21 c22 f22 hx3
  go_wp2
  refine bodyPost_ret (v := .tuple #[.agg #[.bool neg, .string (bs D), .int .i64 (-(fr.length : Int))], .bool false]) ?_ rfl ⟨rfl, ?_⟩
  · simp [results, Tryz.results83, go_sem, c30, c31, c32]
  · repeat (first | with_reducible exact y3.out | with_reducible refine Ext.setCell ?_ (by simp) _)

set_option maxRecDepth 100000 in
set_option maxHeartbeats 1000000 in
theorem rd_s_none_exp (s s1 d s2 af fr r ag D : List UInt8) (neg : Bool) (ex : Int) (hl : s.length ≤ 60) (hd : d ≠ []) (hf : fr = []) (hfl : fr.length ≤ 100) (hdl : d.length ≤ 100) (he1 : -10000 ≤ ex) (he2 : ex ≤ 10000) (hP1 : ∀ w, Calls Tryz.prog 103 #[.string (bs s), .string ⟨#[45]⟩] w fun e w' => e = .returned (.tuple #[.string (bs s1), .bool neg]) ∧ w = w') (hC1 : ∀ w, Calls Tryz.prog 104 #[.string (bs s1)] w fun e w' => e = .returned (.tuple #[.string (bs d), .string (bs s2)]) ∧ Ext w w') (hP2 : ∀ w, Calls Tryz.prog 103 #[.string (bs s2), .string ⟨#[46]⟩] w fun e w' => e = .returned (.tuple #[.string (bs af), .bool true]) ∧ w = w') (hC2 : ∀ w, Calls Tryz.prog 104 #[.string (bs af)] w fun e w' => e = .returned (.tuple #[.string (bs fr), .string (bs r)]) ∧ Ext w w') (hP3 : ∀ w, Calls Tryz.prog 103 #[.string (bs r), .string ⟨#[101]⟩] w fun e w' => e = .returned (.tuple #[.string (bs ag), .bool true]) ∧ w = w') (hRE : ∀ w, Calls Tryz.prog 105 #[.string (bs ag)] w fun e w' => e = .returned (.tuple #[.int .i64 ex, .bool true]) ∧ Ext w w') (hTZ : ∀ w, Calls Tryz.prog 106 #[.string (bs (d ++ fr)), .string ⟨#[48]⟩] w fun e w' => e = .returned (.string (bs D)) ∧ Ext w w') (w : World) :
    Calls Tryz.prog 83 #[.string (bs s)] w fun e w' => e = .returned (.tuple #[.agg #[.bool neg, .string (bs D), .int .i64 ((-(fr.length : Int)) + ex)], .bool false]) ∧ Ext w w' := by
  have zs : (bs s).size = s.length := rfl
  have hl2 : ¬ (60 : Int) < s.length := by omega
  obtain ⟨m1, m2⟩ := list_some hd
  obtain ⟨m3, m4⟩ := list_none hf
  have happ : bs d ++ bs fr = bs (d ++ fr) := bs_append d fr
  have z1 : (bs d).size = d.length := rfl
  have z2 : (bs fr).size = fr.length := rfl
  have hcat : ¬ 9223372036854775807 < d.length + fr.length := by omega
  have hcat2 : d.length + fr.length ≤ 9223372036854775807 := by omega
  have b3 : (fr.length : Int) ≤ 100 := by omega
  have P1 := Lib.hid hP1
  have C1 := Lib.hid hC1
  have P2 := Lib.hid hP2
  have C2 := Lib.hid hC2
  have P3 := Lib.hid hP3
  have RE := Lib.hid hRE
  have TZ := Lib.hid hTZ
  clear hd hP1 hC1 hP2 hC2 hP3 hRE hTZ hf
  go_enter Tryz.func83, Tryz.ntmps83
  go_wp2_with fail
  refine (P1.out _).mono ?_
  rintro e w' ⟨rfl, rfl⟩
  go_wp2_with fail
  refine (C1.out _).mono ?_
  rintro e w1 ⟨rfl, hx1⟩
  have y1 := Lib.hid (((Ext.refl w).alloc (.cells #[.bool false, .string ⟨#[]⟩, .int .i64 0] 90)).trans hx1)
  have c10 : w1.cell? ⟨w.heap.size, 0, none⟩ = some (.bool false) := (hx1.cell 0 (by simp)).trans (by simp [go_sem])
  have f10 : w1.frozen? ⟨w.heap.size, 0, none⟩ = false := (hx1.froz 0 (by simp)).trans (by simp [go_sem])
  have c11 : w1.cell? ⟨w.heap.size, 1, none⟩ = some (.string ⟨#[]⟩) := (hx1.cell 1 (by simp)).trans (by simp [go_sem])
  have f11 : w1.frozen? ⟨w.heap.size, 1, none⟩ = false := (hx1.froz 1 (by simp)).trans (by simp [go_sem])
  have c12 : w1.cell? ⟨w.heap.size, 2, none⟩ = some (.int .i64 0) := (hx1.cell 2 (by simp)).trans (by simp [go_sem])
  have f12 : w1.frozen? ⟨w.heap.size, 2, none⟩ = false := (hx1.froz 2 (by simp)).trans (by simp [go_sem])
  have q1 : w.heap.size < w1.heap.size := by have := hx1.size; simp at this; omega
  go_wp2_with fail
  refine (P2.out _).mono ?_
  rintro e w' ⟨rfl, rfl⟩
  go_wp2_with fail
  refine (C2.out _).mono ?_
  rintro e w2 ⟨rfl, hx2⟩
  have y2 := Lib.hid (y1.out.trans hx2)
  have c20 : w2.cell? ⟨w.heap.size, 0, none⟩ = some (.bool false) := (hx2.cell 0 q1).trans c10
  have f20 : w2.frozen? ⟨w.heap.size, 0, none⟩ = false := (hx2.froz 0 q1).trans f10
  have c21 : w2.cell? ⟨w.heap.size, 1, none⟩ = some (.string ⟨#[]⟩) := (hx2.cell 1 q1).trans c11
  have f21 : w2.frozen? ⟨w.heap.size, 1, none⟩ = false := (hx2.froz 1 q1).trans f11
  have c22 : w2.cell? ⟨w.heap.size, 2, none⟩ = some (.int .i64 0) := (hx2.cell 2 q1).trans c12
  have f22 : w2.frozen? ⟨w.heap.size, 2, none⟩ = false := (hx2.froz 2 q1).trans f12
  have q2 : w.heap.size < w2.heap.size := Nat.lt_of_lt_of_le q1 hx2.size
  clear c10 f10 c11 f11 c12 f12 hx2
  go_wp2_with fail
  refine (P3.out _).mono ?_
  rintro e w' ⟨rfl, rfl⟩
  go_wp2_with fail
  refine (RE.out _).mono ?_
  rintro e w3 ⟨rfl, hx3⟩
  have y3 := Lib.hid (y2.out.trans hx3)
  have c30 : w3.cell? ⟨w.heap.size, 0, none⟩ = some (.bool false) := (hx3.cell 0 q2).trans c20
  have f30 : w3.frozen? ⟨w.heap.size, 0, none⟩ = false := (hx3.froz 0 q2).trans f20
  have c31 : w3.cell? ⟨w.heap.size, 1, none⟩ = some (.string ⟨#[]⟩) := (hx3.cell 1 q2).trans c21
  have f31 : w3.frozen? ⟨w.heap.size, 1, none⟩ = false := (hx3.froz 1 q2).trans f21
  have c32 : w3.cell? ⟨w.heap.size, 2, none⟩ = some (.int .i64 0) := (hx3.cell 2 q2).trans c22
  have f32 : w3.frozen? ⟨w.heap.size, 2, none⟩ = false := (hx3.froz 2 q2).trans f22
  have q3 : w.heap.size < w3.heap.size := Nat.lt_of_lt_of_le q2 hx3.size
  clear c20 f20 c21 f21 c22 f22 hx3
  go_wp2_with fail
  refine (TZ.out _).mono ?_
  rintro e w4 ⟨rfl, hx4⟩
  have y4 := Lib.hid (y3.out.trans hx4)
  have c40 : w4.cell? ⟨w.heap.size, 0, none⟩ = some (.bool false) := (hx4.cell 0 q3).trans c30
  have f40 : w4.frozen? ⟨w.heap.size, 0, none⟩ = false := (hx4.froz 0 q3).trans f30
  have c41 : w4.cell? ⟨w.heap.size, 1, none⟩ = some (.string ⟨#[]⟩) := (hx4.cell 1 q3).trans c31
  have f41 : w4.frozen? ⟨w.heap.size, 1, none⟩ = false := (hx4.froz 1 q3).trans f31
  have c42 : w4.cell? ⟨w.heap.size, 2, none⟩ = some (.int .i64 0) := (hx4.cell 2 q3).trans c32
  have f42 : w4.frozen? ⟨w.heap.size, 2, none⟩ = false := (hx4.froz 2 q3).trans f32
  have q4 : w.heap.size < w4.heap.size := Nat.lt_of_lt_of_le q3 hx4.size
  clear c30 f30 c31 f31 c32 f32 hx4
  go_wp2
  refine bodyPost_ret (v := .tuple #[.agg #[.bool neg, .string (bs D), .int .i64 ((-(fr.length : Int)) + ex)], .bool false]) ?_ rfl ⟨rfl, ?_⟩
  · simp [results, Tryz.results83, go_sem, c40, c41, c42]
  · repeat (first | with_reducible exact y4.out | with_reducible refine Ext.setCell ?_ (by simp) _)

set_option maxRecDepth 100000 in
set_option maxHeartbeats 1000000 in
theorem rd_s_none_bad (s s1 d s2 af fr r ag D : List UInt8) (neg : Bool) (ex : Int) (hl : s.length ≤ 60) (hd : d ≠ []) (hf : fr = []) (hfl : fr.length ≤ 100) (hdl : d.length ≤ 100) (he1 : -10000 ≤ ex) (he2 : ex ≤ 10000) (hP1 : ∀ w, Calls Tryz.prog 103 #[.string (bs s), .string ⟨#[45]⟩] w fun e w' => e = .returned (.tuple #[.string (bs s1), .bool neg]) ∧ w = w') (hC1 : ∀ w, Calls Tryz.prog 104 #[.string (bs s1)] w fun e w' => e = .returned (.tuple #[.string (bs d), .string (bs s2)]) ∧ Ext w w') (hP2 : ∀ w, Calls Tryz.prog 103 #[.string (bs s2), .string ⟨#[46]⟩] w fun e w' => e = .returned (.tuple #[.string (bs af), .bool true]) ∧ w = w') (hC2 : ∀ w, Calls Tryz.prog 104 #[.string (bs af)] w fun e w' => e = .returned (.tuple #[.string (bs fr), .string (bs r)]) ∧ Ext w w') (hP3 : ∀ w, Calls Tryz.prog 103 #[.string (bs r), .string ⟨#[101]⟩] w fun e w' => e = .returned (.tuple #[.string (bs ag), .bool true]) ∧ w = w') (hRE : ∀ w, Calls Tryz.prog 105 #[.string (bs ag)] w fun e w' => e = .returned (.tuple #[.int .i64 ex, .bool false]) ∧ Ext w w') (hTZ : ∀ w, Calls Tryz.prog 106 #[.string (bs (d ++ fr)), .string ⟨#[48]⟩] w fun e w' => e = .returned (.string (bs D)) ∧ Ext w w') (w : World) :
    Calls Tryz.prog 83 #[.string (bs s)] w fun e w' => e = .returned (.tuple #[.agg #[.bool neg, .string (bs D), .int .i64 ((-(fr.length : Int)) + ex)], .bool false]) ∧ Ext w w' := by
  have zs : (bs s).size = s.length := rfl
  have hl2 : ¬ (60 : Int) < s.length := by omega
  obtain ⟨m1, m2⟩ := list_some hd
  obtain ⟨m3, m4⟩ := list_none hf
  have happ : bs d ++ bs fr = bs (d ++ fr) := bs_append d fr
  have z1 : (bs d).size = d.length := rfl
  have z2 : (bs fr).size = fr.length := rfl
  have hcat : ¬ 9223372036854775807 < d.length + fr.length := by omega
  have hcat2 : d.length + fr.length ≤ 9223372036854775807 := by omega
  have b3 : (fr.length : Int) ≤ 100 := by omega
  have P1 := Lib.hid hP1
  have C1 := Lib.hid hC1
  have P2 := Lib.hid hP2
  have C2 := Lib.hid hC2
  have P3 := Lib.hid hP3
  have RE := Lib.hid hRE
  have TZ := Lib.hid hTZ
  clear hd hP1 hC1 hP2 hC2 hP3 hRE hTZ hf
  go_enter Tryz.func83, Tryz.ntmps83
  go_wp2_with fail
  refine (P1.out _).mono ?_
  rintro e w' ⟨rfl, rfl⟩
  go_wp2_with fail
  refine (C1.out _).mono ?_
  rintro e w1 ⟨rfl, hx1⟩
  have y1 := Lib.hid (((Ext.refl w).alloc (.cells #[.bool false, .string ⟨#[]⟩, .int .i64 0] 90)).trans hx1)
  have c10 : w1.cell? ⟨w.heap.size, 0, none⟩ = some (.bool false) := (hx1.cell 0 (by simp)).trans (by simp [go_sem])
  have f10 : w1.frozen? ⟨w.heap.size, 0, none⟩ = false := (hx1.froz 0 (by simp)).trans (by simp [go_sem])
  have c11 : w1.cell? ⟨w.heap.size, 1, none⟩ = some (.string ⟨#[]⟩) := (hx1.cell 1 (by simp)).trans (by simp [go_sem])
  have f11 : w1.frozen? ⟨w.heap.size, 1, none⟩ = false := (hx1.froz 1 (by simp)).trans (by simp [go_sem])
  have c12 : w1.cell? ⟨w.heap.size, 2, none⟩ = some (.int .i64 0) := (hx1.cell 2 (by simp)).trans (by simp [go_sem])
  have f12 : w1.frozen? ⟨w.heap.size, 2, none⟩ = false := (hx1.froz 2 (by simp)).trans (by simp [go_sem])
  have q1 : w.heap.size < w1.heap.size := by have := hx1.size; simp at this; omega
  go_wp2_with fail
  refine (P2.out _).mono ?_
  rintro e w' ⟨rfl, rfl⟩
  go_wp2_with fail
  refine (C2.out _).mono ?_
  rintro e w2 ⟨rfl, hx2⟩
  have y2 := Lib.hid (y1.out.trans hx2)
  have c20 : w2.cell? ⟨w.heap.size, 0, none⟩ = some (.bool false) := (hx2.cell 0 q1).trans c10
  have f20 : w2.frozen? ⟨w.heap.size, 0, none⟩ = false := (hx2.froz 0 q1).trans f10
  have c21 : w2.cell? ⟨w.heap.size, 1, none⟩ = some (.string ⟨#[]⟩) := (hx2.cell 1 q1).trans c11
  have f21 : w2.frozen? ⟨w.heap.size, 1, none⟩ = false := (hx2.froz 1 q1).trans f11
  have c22 : w2.cell? ⟨w.heap.size, 2, none⟩ = some (.int .i64 0) := (hx2.cell 2 q1).trans c12
  have f22 : w2.frozen? ⟨w.heap.size, 2, none⟩ = false := (hx2.froz 2 q1).trans f12
  have q2 : w.heap.size < w2.heap.size := Nat.lt_of_lt_of_le q1 hx2.size
  clear c10 f10 c11 f11 c12 f12 hx2
  go_wp2_with fail
  refine (P3.out _).mono ?_
  rintro e w' ⟨rfl, rfl⟩
  go_wp2_with fail
  refine (RE.out _).mono ?_
  rintro e w3 ⟨rfl, hx3⟩
  have y3 := Lib.hid (y2.out.trans hx3)
  have c30 : w3.cell? ⟨w.heap.size, 0, none⟩ = some (.bool false) := (hx3.cell 0 q2).trans c20
  have f30 : w3.frozen? ⟨w.heap.size, 0, none⟩ = false := (hx3.froz 0 q2).trans f20
  have c31 : w3.cell? ⟨w.heap.size, 1, none⟩ = some (.string ⟨#[]⟩) := (hx3.cell 1 q2).trans c21
  have f31 : w3.frozen? ⟨w.heap.size, 1, none⟩ = false := (hx3.froz 1 q2).trans f21
  have c32 : w3.cell? ⟨w.heap.size, 2, none⟩ = some (.int .i64 0) := (hx3.cell 2 q2).trans c22
  have f32 : w3.frozen? ⟨w.heap.size, 2, none⟩ = false := (hx3.froz 2 q2).trans f22
  have q3 : w.heap.size < w3.heap.size := Nat.lt_of_lt_of_le q2 hx3.size
  clear c20 f20 c21 f21 c22 f22 hx3
  go_wp2_with fail
  refine (TZ.out _).mono ?_
  rintro e w4 ⟨rfl, hx4⟩
  have y4 := Lib.hid (y3.out.trans hx4)
  have c40 : w4.cell? ⟨w.heap.size, 0, none⟩ = some (.bool false) := (hx4.cell 0 q3).trans c30
  have f40 : w4.frozen? ⟨w.heap.size, 0, none⟩ = false := (hx4.froz 0 q3).trans f30
  have c41 : w4.cell? ⟨w.heap.size, 1, none⟩ = some (.string ⟨#[]⟩) := (hx4.cell 1 q3).trans c31
  have f41 : w4.frozen? ⟨w.heap.size, 1, none⟩ = false := (hx4.froz 1 q3).trans f31
  have c42 : w4.cell? ⟨w.heap.size, 2, none⟩ = some (.int .i64 0) := (hx4.cell 2 q3).trans c32
  have f42 : w4.frozen? ⟨w.heap.size, 2, none⟩ = false := (hx4.froz 2 q3).trans f32
  have q4 : w.heap.size < w4.heap.size := Nat.lt_of_lt_of_le q3 hx4.size
  clear c30 f30 c31 f31 c32 f32 hx4
  go_wp2
  refine bodyPost_ret (v := .tuple #[.agg #[.bool neg, .string (bs D), .int .i64 ((-(fr.length : Int)) + ex)], .bool false]) ?_ rfl ⟨rfl, ?_⟩
  · simp [results, Tryz.results83, go_sem, c40, c41, c42]
  · repeat (first | with_reducible exact y4.out | with_reducible refine Ext.setCell ?_ (by simp) _)

set_option maxRecDepth 100000 in
set_option maxHeartbeats 1000000 in
theorem rd_e_no_end (s s1 d s2 af ag D : List UInt8) (neg : Bool) (_ex : Int) (hl : s.length ≤ 60) (hd : d = []) (hg : s2 = []) (hP1 : ∀ w, Calls Tryz.prog 103 #[.string (bs s), .string ⟨#[45]⟩] w fun e w' => e = .returned (.tuple #[.string (bs s1), .bool neg]) ∧ w = w') (hC1 : ∀ w, Calls Tryz.prog 104 #[.string (bs s1)] w fun e w' => e = .returned (.tuple #[.string (bs d), .string (bs s2)]) ∧ Ext w w') (hP2 : ∀ w, Calls Tryz.prog 103 #[.string (bs s2), .string ⟨#[46]⟩] w fun e w' => e = .returned (.tuple #[.string (bs af), .bool false]) ∧ w = w') (hP3 : ∀ w, Calls Tryz.prog 103 #[.string (bs s2), .string ⟨#[101]⟩] w fun e w' => e = .returned (.tuple #[.string (bs ag), .bool false]) ∧ w = w') (hTZ : ∀ w, Calls Tryz.prog 106 #[.string (bs d), .string ⟨#[48]⟩] w fun e w' => e = .returned (.string (bs D)) ∧ Ext w w') (w : World) :
    Calls Tryz.prog 83 #[.string (bs s)] w fun e w' => e = .returned (.tuple #[.agg #[.bool neg, .string (bs D), .int .i64 0], .bool false]) ∧ Ext w w' := by
  have zs : (bs s).size = s.length := rfl
  have hl2 : ¬ (60 : Int) < s.length := by omega
  obtain ⟨m1, m2⟩ := list_none hd
  obtain ⟨m5, m6⟩ := list_none hg
  have P1 := Lib.hid hP1
  have C1 := Lib.hid hC1
  have P2 := Lib.hid hP2
  have P3 := Lib.hid hP3
  have TZ := Lib.hid hTZ
  clear hd hP1 hC1 hP2 hP3 hTZ hg
  go_enter Tryz.func83, Tryz.ntmps83
  go_wp2_with fail
  refine (P1.out _).mono ?_
  rintro e w' ⟨rfl, rfl⟩
  go_wp2_with fail
  refine (C1.out _).mono ?_
  rintro e w1 ⟨rfl, hx1⟩
  have y1 := Lib.hid (((Ext.refl w).alloc (.cells #[.bool false, .string ⟨#[]⟩, .int .i64 0] 90)).trans hx1)
  have c10 : w1.cell? ⟨w.heap.size, 0, none⟩ = some (.bool false) := (hx1.cell 0 (by simp)).trans (by simp [go_sem])
  have f10 : w1.frozen? ⟨w.heap.size, 0, none⟩ = false := (hx1.froz 0 (by simp)).trans (by simp [go_sem])
  have c11 : w1.cell? ⟨w.heap.size, 1, none⟩ = some (.string ⟨#[]⟩) := (hx1.cell 1 (by simp)).trans (by simp [go_sem])
  have f11 : w1.frozen? ⟨w.heap.size, 1, none⟩ = false := (hx1.froz 1 (by simp)).trans (by simp [go_sem])
  have c12 : w1.cell? ⟨w.heap.size, 2, none⟩ = some (.int .i64 0) := (hx1.cell 2 (by simp)).trans (by simp [go_sem])
  have f12 : w1.frozen? ⟨w.heap.size, 2, none⟩ = false := (hx1.froz 2 (by simp)).trans (by simp [go_sem])
  have q1 : w.heap.size < w1.heap.size := by have := hx1.size; simp at this; omega
  go_wp2_with fail
  refine (P2.out _).mono ?_
  rintro e w' ⟨rfl, rfl⟩
  go_wp2_with fail
  refine (P3.out _).mono ?_
  rintro e w' ⟨rfl, rfl⟩
  go_wp2_with fail
  refine (TZ.out _).mono ?_
  rintro e w2 ⟨rfl, hx2⟩
  have y2 := Lib.hid (y1.out.trans hx2)
  have c20 : w2.cell? ⟨w.heap.size, 0, none⟩ = some (.bool false) := (hx2.cell 0 q1).trans c10
  have f20 : w2.frozen? ⟨w.heap.size, 0, none⟩ = false := (hx2.froz 0 q1).trans f10
  have c21 : w2.cell? ⟨w.heap.size, 1, none⟩ = some (.string ⟨#[]⟩) := (hx2.cell 1 q1).trans c11
  have f21 : w2.frozen? ⟨w.heap.size, 1, none⟩ = false := (hx2.froz 1 q1).trans f11
  have c22 : w2.cell? ⟨w.heap.size, 2, none⟩ = some (.int .i64 0) := (hx2.cell 2 q1).trans c12
  have f22 : w2.frozen? ⟨w.heap.size, 2, none⟩ = false := (hx2.froz 2 q1).trans f12
  have q2 : w.heap.size < w2.heap.size := Nat.lt_of_lt_of_le q1 hx2.size
  clear c10 f10 c11 f11 c12 f12 hx2
  go_wp2
  refine bodyPost_ret (v := .tuple #[.agg #[.bool neg, .string (bs D), .int .i64 0], .bool false]) ?_ rfl ⟨rfl, ?_⟩
  · simp [results, Tryz.results83, go_sem, c20, c21, c22]
  · repeat (first | with_reducible exact y2.out | with_reducible refine Ext.setCell ?_ (by simp) _)

set_option maxRecDepth 100000 in
set_option maxHeartbeats 1000000 in
theorem rd_e_no_more (s s1 d s2 af ag D : List UInt8) (neg : Bool) (_ex : Int) (hl : s.length ≤ 60) (hd : d = []) (hg : s2 ≠ []) (hP1 : ∀ w, Calls Tryz.prog 103 #[.string (bs s), .string ⟨#[45]⟩] w fun e w' => e = .returned (.tuple #[.string (bs s1), .bool neg]) ∧ w = w') (hC1 : ∀ w, Calls Tryz.prog 104 #[.string (bs s1)] w fun e w' => e = .returned (.tuple #[.string (bs d), .string (bs s2)]) ∧ Ext w w') (hP2 : ∀ w, Calls Tryz.prog 103 #[.string (bs s2), .string ⟨#[46]⟩] w fun e w' => e = .returned (.tuple #[.string (bs af), .bool false]) ∧ w = w') (hP3 : ∀ w, Calls Tryz.prog 103 #[.string (bs s2), .string ⟨#[101]⟩] w fun e w' => e = .returned (.tuple #[.string (bs ag), .bool false]) ∧ w = w') (hTZ : ∀ w, Calls Tryz.prog 106 #[.string (bs d), .string ⟨#[48]⟩] w fun e w' => e = .returned (.string (bs D)) ∧ Ext w w') (w : World) :
    Calls Tryz.prog 83 #[.string (bs s)] w fun e w' => e = .returned (.tuple #[.agg #[.bool neg, .string (bs D), .int .i64 0], .bool false]) ∧ Ext w w' := by
  have zs : (bs s).size = s.length := rfl
  have hl2 : ¬ (60 : Int) < s.length := by omega
  obtain ⟨m1, m2⟩ := list_none hd
  obtain ⟨m5, m6⟩ := list_some hg
  have P1 := Lib.hid hP1
  have C1 := Lib.hid hC1
  have P2 := Lib.hid hP2
  have P3 := Lib.hid hP3
  have TZ := Lib.hid hTZ
  clear hd hP1 hC1 hP2 hP3 hTZ hg
  go_enter Tryz.func83, Tryz.ntmps83
  go_wp2_with fail
  refine (P1.out _).mono ?_
  rintro e w' ⟨rfl, rfl⟩
  go_wp2_with fail
  refine (C1.out _).mono ?_
  rintro e w1 ⟨rfl, hx1⟩
  have y1 := Lib.hid (((Ext.refl w).alloc (.cells #[.bool false, .string ⟨#[]⟩, .int .i64 0] 90)).trans hx1)
  have c10 : w1.cell? ⟨w.heap.size, 0, none⟩ = some (.bool false) := (hx1.cell 0 (by simp)).trans (by simp [go_sem])
  have f10 : w1.frozen? ⟨w.heap.size, 0, none⟩ = false := (hx1.froz 0 (by simp)).trans (by simp [go_sem])
  have c11 : w1.cell? ⟨w.heap.size, 1, none⟩ = some (.string ⟨#[]⟩) := (hx1.cell 1 (by simp)).trans (by simp [go_sem])
  have f11 : w1.frozen? ⟨w.heap.size, 1, none⟩ = false := (hx1.froz 1 (by simp)).trans (by simp [go_sem])
  have c12 : w1.cell? ⟨w.heap.size, 2, none⟩ = some (.int .i64 0) := (hx1.cell 2 (by simp)).trans (by simp [go_sem])
  have f12 : w1.frozen? ⟨w.heap.size, 2, none⟩ = false := (hx1.froz 2 (by simp)).trans (by simp [go_sem])
  have q1 : w.heap.size < w1.heap.size := by have := hx1.size; simp at this; omega
  go_wp2_with fail
  refine (P2.out _).mono ?_
  rintro e w' ⟨rfl, rfl⟩
  go_wp2_with fail
  refine (P3.out _).mono ?_
  rintro e w' ⟨rfl, rfl⟩
  go_wp2_with fail
  refine (TZ.out _).mono ?_
  rintro e w2 ⟨rfl, hx2⟩
  have y2 := Lib.hid (y1.out.trans hx2)
  have c20 : w2.cell? ⟨w.heap.size, 0, none⟩ = some (.bool false) := (hx2.cell 0 q1).trans c10
  have f20 : w2.frozen? ⟨w.heap.size, 0, none⟩ = false := (hx2.froz 0 q1).trans f10
  have c21 : w2.cell? ⟨w.heap.size, 1, none⟩ = some (.string ⟨#[]⟩) := (hx2.cell 1 q1).trans c11
  have f21 : w2.frozen? ⟨w.heap.size, 1, none⟩ = false := (hx2.froz 1 q1).trans f11
  have c22 : w2.cell? ⟨w.heap.size, 2, none⟩ = some (.int .i64 0) := (hx2.cell 2 q1).trans c12
  have f22 : w2.frozen? ⟨w.heap.size, 2, none⟩ = false := (hx2.froz 2 q1).trans f12
  have q2 : w.heap.size < w2.heap.size := Nat.lt_of_lt_of_le q1 hx2.size
  clear c10 f10 c11 f11 c12 f12 hx2
  go_wp2
  refine bodyPost_ret (v := .tuple #[.agg #[.bool neg, .string (bs D), .int .i64 0], .bool false]) ?_ rfl ⟨rfl, ?_⟩
  · simp [results, Tryz.results83, go_sem, c20, c21, c22]
  · repeat (first | with_reducible exact y2.out | with_reducible refine Ext.setCell ?_ (by simp) _)

set_option maxRecDepth 100000 in
set_option maxHeartbeats 1000000 in
theorem rd_e_no_exp (s s1 d s2 af ag D : List UInt8) (neg : Bool) (ex : Int) (hl : s.length ≤ 60) (hd : d = []) (he1 : -10000 ≤ ex) (he2 : ex ≤ 10000) (hP1 : ∀ w, Calls Tryz.prog 103 #[.string (bs s), .string ⟨#[45]⟩] w fun e w' => e = .returned (.tuple #[.string (bs s1), .bool neg]) ∧ w = w') (hC1 : ∀ w, Calls Tryz.prog 104 #[.string (bs s1)] w fun e w' => e = .returned (.tuple #[.string (bs d), .string (bs s2)]) ∧ Ext w w') (hP2 : ∀ w, Calls Tryz.prog 103 #[.string (bs s2), .string ⟨#[46]⟩] w fun e w' => e = .returned (.tuple #[.string (bs af), .bool false]) ∧ w = w') (hP3 : ∀ w, Calls Tryz.prog 103 #[.string (bs s2), .string ⟨#[101]⟩] w fun e w' => e = .returned (.tuple #[.string (bs ag), .bool true]) ∧ w = w') (hRE : ∀ w, Calls Tryz.prog 105 #[.string (bs ag)] w fun e w' => e = .returned (.tuple #[.int .i64 ex, .bool true]) ∧ Ext w w') (hTZ : ∀ w, Calls Tryz.prog 106 #[.string (bs d), .string ⟨#[48]⟩] w fun e w' => e = .returned (.string (bs D)) ∧ Ext w w') (w : World) :
    Calls Tryz.prog 83 #[.string (bs s)] w fun e w' => e = .returned (.tuple #[.agg #[.bool neg, .string (bs D), .int .i64 ex], .bool false]) ∧ Ext w w' := by
  have zs : (bs s).size = s.length := rfl
  have hl2 : ¬ (60 : Int) < s.length := by omega
  obtain ⟨m1, m2⟩ := list_none hd
  have P1 := Lib.hid hP1
  have C1 := Lib.hid hC1
  have P2 := Lib.hid hP2
  have P3 := Lib.hid hP3
  have RE := Lib.hid hRE
  have TZ := Lib.hid hTZ
  clear hd hP1 hC1 hP2 hP3 hRE hTZ
  go_enter Tryz.func83, Tryz.ntmps83
  go_wp2_with fail
  refine (P1.out _).mono ?_
  rintro e w' ⟨rfl, rfl⟩
  go_wp2_with fail
  refine (C1.out _).mono ?_
  rintro e w1 ⟨rfl, hx1⟩
  have y1 := Lib.hid (((Ext.refl w).alloc (.cells #[.bool false, .string ⟨#[]⟩, .int .i64 0] 90)).trans hx1)
  have c10 : w1.cell? ⟨w.heap.size, 0, none⟩ = some (.bool false) := (hx1.cell 0 (by simp)).trans (by simp [go_sem])
  have f10 : w1.frozen? ⟨w.heap.size, 0, none⟩ = false := (hx1.froz 0 (by simp)).trans (by simp [go_sem])
  have c11 : w1.cell? ⟨w.heap.size, 1, none⟩ = some (.string ⟨#[]⟩) := (hx1.cell 1 (by simp)).trans (by simp [go_sem])
  have f11 : w1.frozen? ⟨w.heap.size, 1, none⟩ = false := (hx1.froz 1 (by simp)).trans (by simp [go_sem])
  have c12 : w1.cell? ⟨w.heap.size, 2, none⟩ = some (.int .i64 0) := (hx1.cell 2 (by simp)).trans (by simp [go_sem])
  have f12 : w1.frozen? ⟨w.heap.size, 2, none⟩ = false := (hx1.froz 2 (by simp)).trans (by simp [go_sem])
  have q1 : w.heap.size < w1.heap.size := by have := hx1.size; simp at this; omega
  go_wp2_with fail
  refine (P2.out _).mono ?_
  rintro e w' ⟨rfl, rfl⟩
  go_wp2_with fail
  refine (P3.out _).mono ?_
  rintro e w' ⟨rfl, rfl⟩
  go_wp2_with fail
  refine (RE.out _).mono ?_
  rintro e w2 ⟨rfl, hx2⟩
  have y2 := Lib.hid (y1.out.trans hx2)
  have c20 : w2.cell? ⟨w.heap.size, 0, none⟩ = some (.bool false) := (hx2.cell 0 q1).trans c10
  have f20 : w2.frozen? ⟨w.heap.size, 0, none⟩ = false := (hx2.froz 0 q1).trans f10
  have c21 : w2.cell? ⟨w.heap.size, 1, none⟩ = some (.string ⟨#[]⟩) := (hx2.cell 1 q1).trans c11
  have f21 : w2.frozen? ⟨w.heap.size, 1, none⟩ = false := (hx2.froz 1 q1).trans f11
  have c22 : w2.cell? ⟨w.heap.size, 2, none⟩ = some (.int .i64 0) := (hx2.cell 2 q1).trans c12
  have f22 : w2.frozen? ⟨w.heap.size, 2, none⟩ = false := (hx2.froz 2 q1).trans f12
  have q2 : w.heap.size < w2.heap.size := Nat.lt_of_lt_of_le q1 hx2.size
  clear c10 f10 c11 f11 c12 f12 hx2
  go_wp2_with fail
  refine (TZ.out _).mono ?_
  rintro e w3 ⟨rfl, hx3⟩
  have y3 := Lib.hid (y2.out.trans hx3)
  have c30 : w3.cell? ⟨w.heap.size, 0, none⟩ = some (.bool false) := (hx3.cell 0 q2).trans c20
  have f30 : w3.frozen? ⟨w.heap.size, 0, none⟩ = false := (hx3.froz 0 q2).trans f20
  have c31 : w3.cell? ⟨w.heap.size, 1, none⟩ = some (.string ⟨#[]⟩) := (hx3.cell 1 q2).trans c21
  have f31 : w3.frozen? ⟨w.heap.size, 1, none⟩ = false := (hx3.froz 1 q2).trans f21
  have c32 : w3.cell? ⟨w.heap.size, 2, none⟩ = some (.int .i64 0) := (hx3.cell 2 q2).trans c22
  have f32 : w3.frozen? ⟨w.heap.size, 2, none⟩ = false := (hx3.froz 2 q2).trans f22
  have q3 : w.heap.size < w3.heap.size := Nat.lt_of_lt_of_le q2 hx3.size
  clear c20 f20 c21 f21 c22 f22 hx3
  go_wp2
  refine bodyPost_ret (v := .tuple #[.agg #[.bool neg, .string (bs D), .int .i64 ex], .bool false]) ?_ rfl ⟨rfl, ?_⟩
  · simp [results, Tryz.results83, go_sem, c30, c31, c32]
  · repeat (first | with_reducible exact y3.out | with_reducible refine Ext.setCell ?_ (by simp) _)

set_option maxRecDepth 100000 in
set_option maxHeartbeats 1000000 in
theorem rd_e_no_bad (s s1 d s2 af ag D : List UInt8) (neg : Bool) (ex : Int) (hl : s.length ≤ 60) (hd : d = []) (he1 : -10000 ≤ ex) (he2 : ex ≤ 10000) (hP1 : ∀ w, Calls Tryz.prog 103 #[.string (bs s), .string ⟨#[45]⟩] w fun e w' => e = .returned (.tuple #[.string (bs s1), .bool neg]) ∧ w = w') (hC1 : ∀ w, Calls Tryz.prog 104 #[.string (bs s1)] w fun e w' => e = .returned (.tuple #[.string (bs d), .string (bs s2)]) ∧ Ext w w') (hP2 : ∀ w, Calls Tryz.prog 103 #[.string (bs s2), .string ⟨#[46]⟩] w fun e w' => e = .returned (.tuple #[.string (bs af), .bool false]) ∧ w = w') (hP3 : ∀ w, Calls Tryz.prog 103 #[.string (bs s2), .string ⟨#[101]⟩] w fun e w' => e = .returned (.tuple #[.string (bs ag), .bool true]) ∧ w = w') (hRE : ∀ w, Calls Tryz.prog 105 #[.string (bs ag)] w fun e w' => e = .returned (.tuple #[.int .i64 ex, .bool false]) ∧ Ext w w') (hTZ : ∀ w, Calls Tryz.prog 106 #[.string (bs d), .string ⟨#[48]⟩] w fun e w' => e = .returned (.string (bs D)) ∧ Ext w w') (w : World) :
    Calls Tryz.prog 83 #[.string (bs s)] w fun e w' => e = .returned (.tuple #[.agg #[.bool neg, .string (bs D), .int .i64 ex], .bool false]) ∧ Ext w w' := by
  have zs : (bs s).size = s.length := rfl
  have hl2 : ¬ (60 : Int) < s.length := by omega
  obtain ⟨m1, m2⟩ := list_none hd
  have P1 := Lib.hid hP1
  have C1 := Lib.hid hC1
  have P2 := Lib.hid hP2
  have P3 := Lib.hid hP3
  have RE := Lib.hid hRE
  have TZ := Lib.hid hTZ
  clear hd hP1 hC1 hP2 hP3 hRE hTZ
  go_enter Tryz.func83, Tryz.ntmps83
  go_wp2_with fail
  refine (P1.out _).mono ?_
  rintro e w' ⟨rfl, rfl⟩
  go_wp2_with fail
  refine (C1.out _).mono ?_
  rintro e w1 ⟨rfl, hx1⟩
  have y1 := Lib.hid (((Ext.refl w).alloc (.cells #[.bool false, .string ⟨#[]⟩, .int .i64 0] 90)).trans hx1)
  have c10 : w1.cell? ⟨w.heap.size, 0, none⟩ = some (.bool false) := (hx1.cell 0 (by simp)).trans (by simp [go_sem])
  have f10 : w1.frozen? ⟨w.heap.size, 0, none⟩ = false := (hx1.froz 0 (by simp)).trans (by simp [go_sem])
  have c11 : w1.cell? ⟨w.heap.size, 1, none⟩ = some (.string ⟨#[]⟩) := (hx1.cell 1 (by simp)).trans (by simp [go_sem])
  have f11 : w1.frozen? ⟨w.heap.size, 1, none⟩ = false := (hx1.froz 1 (by simp)).trans (by simp [go_sem])
  have c12 : w1.cell? ⟨w.heap.size, 2, none⟩ = some (.int .i64 0) := (hx1.cell 2 (by simp)).trans (by simp [go_sem])
  have f12 : w1.frozen? ⟨w.heap.size, 2, none⟩ = false := (hx1.froz 2 (by simp)).trans (by simp [go_sem])
  have q1 : w.heap.size < w1.heap.size := by have := hx1.size; simp at this; omega
  go_wp2_with fail
  refine (P2.out _).mono ?_
  rintro e w' ⟨rfl, rfl⟩
  go_wp2_with fail
  refine (P3.out _).mono ?_
  rintro e w' ⟨rfl, rfl⟩
  go_wp2_with fail
  refine (RE.out _).mono ?_
  rintro e w2 ⟨rfl, hx2⟩
  have y2 := Lib.hid (y1.out.trans hx2)
  have c20 : w2.cell? ⟨w.heap.size, 0, none⟩ = some (.bool false) := (hx2.cell 0 q1).trans c10
  have f20 : w2.frozen? ⟨w.heap.size, 0, none⟩ = false := (hx2.froz 0 q1).trans f10
  have c21 : w2.cell? ⟨w.heap.size, 1, none⟩ = some (.string ⟨#[]⟩) := (hx2.cell 1 q1).trans c11
  have f21 : w2.frozen? ⟨w.heap.size, 1, none⟩ = false := (hx2.froz 1 q1).trans f11
  have c22 : w2.cell? ⟨w.heap.size, 2, none⟩ = some (.int .i64 0) := (hx2.cell 2 q1).trans c12
  have f22 : w2.frozen? ⟨w.heap.size, 2, none⟩ = false := (hx2.froz 2 q1).trans f12
  have q2 : w.heap.size < w2.heap.size := Nat.lt_of_lt_of_le q1 hx2.size
  clear c10 f10 c11 f11 c12 f12 hx2
  go_wp2_with fail
  refine (TZ.out _).mono ?_
  rintro e w3 ⟨rfl, hx3⟩
  have y3 := Lib.hid (y2.out.trans hx3)
  have c30 : w3.cell? ⟨w.heap.size, 0, none⟩ = some (.bool false) := (hx3.cell 0 q2).trans c20
  have f30 : w3.frozen? ⟨w.heap.size, 0, none⟩ = false := (hx3.froz 0 q2).trans f20
  have c31 : w3.cell? ⟨w.heap.size, 1, none⟩ = some (.string ⟨#[]⟩) := (hx3.cell 1 q2).trans c21
  have f31 : w3.frozen? ⟨w.heap.size, 1, none⟩ = false := (hx3.froz 1 q2).trans f21
  have c32 : w3.cell? ⟨w.heap.size, 2, none⟩ = some (.int .i64 0) := (hx3.cell 2 q2).trans c22
  have f32 : w3.frozen? ⟨w.heap.size, 2, none⟩ = false := (hx3.froz 2 q2).trans f22
  have q3 : w.heap.size < w3.heap.size := Nat.lt_of_lt_of_le q2 hx3.size
  clear c20 f20 c21 f21 c22 f22 hx3
  go_wp2
  refine bodyPost_ret (v := .tuple #[.agg #[.bool neg, .string (bs D), .int .i64 ex], .bool false]) ?_ rfl ⟨rfl, ?_⟩
  · simp [results, Tryz.results83, go_sem, c30, c31, c32]
  · repeat (first | with_reducible exact y3.out | with_reducible refine Ext.setCell ?_ (by simp) _)

set_option maxRecDepth 100000 in
set_option maxHeartbeats 1000000 in
theorem rd_e_some_end (s s1 d s2 af fr r ag D : List UInt8) (neg : Bool) (_ex : Int) (hl : s.length ≤ 60) (hd : d = []) (hf : fr ≠ []) (hfl : fr.length ≤ 100) (hdl : d.length ≤ 100) (hg : r = []) (hP1 : ∀ w, Calls Tryz.prog 103 #[.string (bs s), .string ⟨#[45]⟩] w fun e w' => e = .returned (.tuple #[.string (bs s1), .bool neg]) ∧ w = w') (hC1 : ∀ w, Calls Tryz.prog 104 #[.string (bs s1)] w fun e w' => e = .returned (.tuple #[.string (bs d), .string (bs s2)]) ∧ Ext w w') (hP2 : ∀ w, Calls Tryz.prog 103 #[.string (bs s2), .string ⟨#[46]⟩] w fun e w' => e = .returned (.tuple #[.string (bs af), .bool true]) ∧ w = w') (hC2 : ∀ w, Calls Tryz.prog 104 #[.string (bs af)] w fun e w' => e = .returned (.tuple #[.string (bs fr), .string (bs r)]) ∧ Ext w w') (hP3 : ∀ w, Calls Tryz.prog 103 #[.string (bs r), .string ⟨#[101]⟩] w fun e w' => e = .returned (.tuple #[.string (bs ag), .bool false]) ∧ w = w') (hTZ : ∀ w, Calls Tryz.prog 106 #[.string (bs (d ++ fr)), .string ⟨#[48]⟩] w fun e w' => e = .returned (.string (bs D)) ∧ Ext w w') (w : World) :
    Calls Tryz.prog 83 #[.string (bs s)] w fun e w' => e = .returned (.tuple #[.agg #[.bool neg, .string (bs D), .int .i64 (-(fr.length : Int))], .bool false]) ∧ Ext w w' := by
  have zs : (bs s).size = s.length := rfl
  have hl2 : ¬ (60 : Int) < s.length := by omega
  obtain ⟨m1, m2⟩ := list_none hd
  obtain ⟨m3, m4⟩ := list_some hf
  have happ : bs d ++ bs fr = bs (d ++ fr) := bs_append d fr
  have z1 : (bs d).size = d.length := rfl
  have z2 : (bs fr).size = fr.length := rfl
  have hcat : ¬ 9223372036854775807 < d.length + fr.length := by omega
  have hcat2 : d.length + fr.length ≤ 9223372036854775807 := by omega
  have b3 : (fr.length : Int) ≤ 100 := by omega
  obtain ⟨m5, m6⟩ := list_none hg
  have P1 := Lib.hid hP1
  have C1 := Lib.hid hC1
  have P2 := Lib.hid hP2
  have C2 := Lib.hid hC2
  have P3 := Lib.hid hP3
  have TZ := Lib.hid hTZ
  clear hd hP1 hC1 hP2 hC2 hP3 hTZ hf hg
  go_enter Tryz.func83, Tryz.ntmps83
  go_wp2_with fail
  refine (P1.out _).mono ?_
  rintro e w' ⟨rfl, rfl⟩
  go_wp2_with fail
  refine (C1.out _).mono ?_
  rintro e w1 ⟨rfl, hx1⟩
  have y1 := Lib.hid (((Ext.refl w).alloc (.cells #[.bool false, .string ⟨#[]⟩, .int .i64 0] 90)).trans hx1)
  have c10 : w1.cell? ⟨w.heap.size, 0, none⟩ = some (.bool false) := (hx1.cell 0 (by simp)).trans (by simp [go_sem])
  have f10 : w1.frozen? ⟨w.heap.size, 0, none⟩ = false := (hx1.froz 0 (by simp)).trans (by simp [go_sem])
  have c11 : w1.cell? ⟨w.heap.size, 1, none⟩ = some (.string ⟨#[]⟩) := (hx1.cell 1 (by simp)).trans (by simp [go_sem])
  have f11 : w1.frozen? ⟨w.heap.size, 1, none⟩ = false := (hx1.froz 1 (by simp)).trans (by simp [go_sem])
  have c12 : w1.cell? ⟨w.heap.size, 2, none⟩ = some (.int .i64 0) := (hx1.cell 2 (by simp)).trans (by simp [go_sem])
  have f12 : w1.frozen? ⟨w.heap.size, 2, none⟩ = false := (hx1.froz 2 (by simp)).trans (by simp [go_sem])
  have q1 : w.heap.size < w1.heap.size := by have := hx1.size; simp at this; omega
  go_wp2_with fail
  refine (P2.out _).mono ?_
  rintro e w' ⟨rfl, rfl⟩
  go_wp2_with fail
  refine (C2.out _).mono ?_
  rintro e w2 ⟨rfl, hx2⟩
  have y2 := Lib.hid (y1.out.trans hx2)
  have c20 : w2.cell? ⟨w.heap.size, 0, none⟩ = some (.bool false) := (hx2.cell 0 q1).trans c10
  have f20 : w2.frozen? ⟨w.heap.size, 0, none⟩ = false := (hx2.froz 0 q1).trans f10
  have c21 : w2.cell? ⟨w.heap.size, 1, none⟩ = some (.string ⟨#[]⟩) := (hx2.cell 1 q1).trans c11
  have f21 : w2.frozen? ⟨w.heap.size, 1, none⟩ = false := (hx2.froz 1 q1).trans f11
  have c22 : w2.cell? ⟨w.heap.size, 2, none⟩ = some (.int .i64 0) := (hx2.cell 2 q1).trans c12
  have f22 : w2.frozen? ⟨w.heap.size, 2, none⟩ = false := (hx2.froz 2 q1).trans f12
  have q2 : w.heap.size < w2.heap.size := Nat.lt_of_lt_of_le q1 hx2.size
  clear c10 f10 c11 f11 c12 f12 hx2
  go_wp2_with fail
  refine (P3.out _).mono ?_
  rintro e w' ⟨rfl, rfl⟩
  go_wp2_with fail
  refine (TZ.out _).mono ?_
  rintro e w3 ⟨rfl, hx3⟩
  have y3 := Lib.hid (y2.out.trans hx3)
  have c30 : w3.cell? ⟨w.heap.size, 0, none⟩ = some (.bool false) := (hx3.cell 0 q2).trans c20
  have f30 : w3.frozen? ⟨w.heap.size, 0, none⟩ = false := (hx3.froz 0 q2).trans f20
  have c31 : w3.cell? ⟨w.heap.size, 1, none⟩ = some (.string ⟨#[]⟩) := (hx3.cell 1 q2).trans c21
  have f31 : w3.frozen? ⟨w.heap.size, 1, none⟩ = false := (hx3.froz 1 q2).trans f21
  have c32 : w3.cell? ⟨w.heap.size, 2, none⟩ = some (.int .i64 0) := (hx3.cell 2 q2).trans c22
  have f32 : w3.frozen? ⟨w.heap.size, 2, none⟩ = false := (hx3.froz 2 q2).trans f22
  have q3 : w.heap.size < w3.heap.size := Nat.lt_of_lt_of_le q2 hx3.size
  clear c20 f20 c21 f21 c22 f22 hx3
  go_wp2
  refine bodyPost_ret (v := .tuple #[.agg #[.bool neg, .string (bs D), .int .i64 (-(fr.length : Int))], .bool false]) ?_ rfl ⟨rfl, ?_⟩
  · simp [results, Tryz.results83, go_sem, c30, c31, c32]
  · repeat (first | with_reducible exact y3.out | with_reducible refine Ext.setCell ?_ (by simp) _)

set_option maxRecDepth 100000 in
set_option maxHeartbeats 1000000 in
theorem rd_e_some_more (s s1 d s2 af fr r ag D : List UInt8) (neg : Bool) (_ex : Int) (hl : s.length ≤ 60) (hd : d = []) (hf : fr ≠ []) (hfl : fr.length ≤ 100) (hdl : d.length ≤ 100) (hg : r ≠ []) (hP1 : ∀ w, Calls Tryz.prog 103 #[.string (bs s), .string ⟨#[45]⟩] w fun e w' => e = .returned (.tuple #[.string (bs s1), .bool neg]) ∧ w = w') (hC1 : ∀ w, Calls Tryz.prog 104 #[.string (bs s1)] w fun e w' => e = .returned (.tuple #[.string (bs d), .string (bs s2)]) ∧ Ext w w') (hP2 : ∀ w, Calls Tryz.prog 103 #[.string (bs s2), .string ⟨#[46]⟩] w fun e w' => e = .returned (.tuple #[.string (bs af), .bool true]) ∧ w = w') (hC2 : ∀ w, Calls Tryz.prog 104 #[.string (bs af)] w fun e w' => e = .returned (.tuple #[.string (bs fr), .string (bs r)]) ∧ Ext w w') (hP3 : ∀ w, Calls Tryz.prog 103 #[.string (bs r), .string ⟨#[101]⟩] w fun e w' => e = .returned (.tuple #[.string (bs ag), .bool false]) ∧ w = w') (hTZ : ∀ w, Calls Tryz.prog 106 #[.string (bs (d ++ fr)), .string ⟨#[48]⟩] w fun e w' => e = .returned (.string (bs D)) ∧ Ext w w') (w : World) :
    Calls Tryz.prog 83 #[.string (bs s)] w fun e w' => e = .returned (.tuple #[.agg #[.bool neg, .string (bs D), .int .i64 (-(fr.length : Int))], .bool false]) ∧ Ext w w' := by
  have zs : (bs s).size = s.length := rfl
  have hl2 : ¬ (60 : Int) < s.length := by omega
  obtain ⟨m1, m2⟩ := list_none hd
  obtain ⟨m3, m4⟩ := list_some hf
  have happ : bs d ++ bs fr = bs (d ++ fr) := bs_append d fr
  have z1 : (bs d).size = d.length := rfl
  have z2 : (bs fr).size = fr.length := rfl
  have hcat : ¬ 9223372036854775807 < d.length + fr.length := by omega
  have hcat2 : d.length + fr.length ≤ 9223372036854775807 := by omega
  have b3 : (fr.length : Int) ≤ 100 := by omega
  obtain ⟨m5, m6⟩ := list_some hg
  have P1 := Lib.hid hP1
  have C1 := Lib.hid hC1
  have P2 := Lib.hid hP2
  have C2 := Lib.hid hC2
  have P3 := Lib.hid hP3
  have TZ := Lib.hid hTZ
  clear hd hP1 hC1 hP2 hC2 hP3 hTZ hf hg
  go_enter Tryz.func83, Tryz.ntmps83
  go_wp2_with fail
  refine (P1.out _).mono ?_
  rintro e w' ⟨rfl, rfl⟩
  go_wp2_with fail
  refine (C1.out _).mono ?_
  rintro e w1 ⟨rfl, hx1⟩
  have y1 := Lib.hid (((Ext.refl w).alloc (.cells #[.bool false, .string ⟨#[]⟩, .int .i64 0] 90)).trans hx1)
  have c10 : w1.cell? ⟨w.heap.size, 0, none⟩ = some (.bool false) := (hx1.cell 0 (by simp)).trans (by simp [go_sem])
  have f10 : w1.frozen? ⟨w.heap.size, 0, none⟩ = false := (hx1.froz 0 (by simp)).trans (by simp [go_sem])
  have c11 : w1.cell? ⟨w.heap.size, 1, none⟩ = some (.string ⟨#[]⟩) := (hx1.cell 1 (by simp)).trans (by simp [go_sem])
  have f11 : w1.frozen? ⟨w.heap.size, 1, none⟩ = false := (hx1.froz 1 (by simp)).trans (by simp [go_sem])
  have c12 : w1.cell? ⟨w.heap.size, 2, none⟩ = some (.int .i64 0) := (hx1.cell 2 (by simp)).trans (by simp [go_sem])
  have f12 : w1.frozen? ⟨w.heap.size, 2, none⟩ = false := (hx1.froz 2 (by simp)).trans (by simp [go_sem])
  have q1 : w.heap.size < w1.heap.size := by have := hx1.size; simp at this; omega
  go_wp2_with fail
  refine (P2.out _).mono ?_
  rintro e w' ⟨rfl, rfl⟩
  go_wp2_with fail
  refine (C2.out _).mono ?_
  rintro e w2 ⟨rfl, hx2⟩
  have y2 := Lib.hid (y1.out.trans hx2)
  have c20 : w2.cell? ⟨w.heap.size, 0, none⟩ = some (.bool false) := (hx2.cell 0 q1).trans c10
  have f20 : w2.frozen? ⟨w.heap.size, 0, none⟩ = false := (hx2.froz 0 q1).trans f10
  have c21 : w2.cell? ⟨w.heap.size, 1, none⟩ = some (.string ⟨#[]⟩) := (hx2.cell 1 q1).trans c11
  have f21 : w2.frozen? ⟨w.heap.size, 1, none⟩ = false := (hx2.froz 1 q1).trans f11
  have c22 : w2.cell? ⟨w.heap.size, 2, none⟩ = some (.int .i64 0) := (hx2.cell 2 q1).trans c12
  have f22 : w2.frozen? ⟨w.heap.size, 2, none⟩ = false := (hx2.froz 2 q1).trans f12
  have q2 : w.heap.size < w2.heap.size := Nat.lt_of_lt_of_le q1 hx2.size
  clear c10 f10 c11 f11 c12 f12 hx2
  go_wp2_with fail
  refine (P3.out _).mono ?_
  rintro e w' ⟨rfl, rfl⟩
  go_wp2_with fail
  refine (TZ.out _).mono ?_
  rintro e w3 ⟨rfl, hx3⟩
  have y3 := Lib.hid (y2.out.trans hx3)
  have c30 : w3.cell? ⟨w.heap.size, 0, none⟩ = some (.bool false) := (hx3.cell 0 q2).trans c20
  have f30 : w3.frozen? ⟨w.heap.size, 0, none⟩ = false := (hx3.froz 0 q2).trans f20
  have c31 : w3.cell? ⟨w.heap.size, 1, none⟩ = some (.string ⟨#[]⟩) := (hx3.cell 1 q2).trans c21
  have f31 : w3.frozen? ⟨w.heap.size, 1, none⟩ = false := (hx3.froz 1 q2).trans f21
  have c32 : w3.cell? ⟨w.heap.size, 2, none⟩ = some (.int .i64 0) := (hx3.cell 2 q2).trans c22
  have f32 : w3.frozen? ⟨w.heap.size, 2, none⟩ = false := (hx3.froz 2 q2).trans f22
  have q3 : w.heap.size < w3.heap.size := Nat.lt_of_lt_of_le q2 hx3.size
  clear c20 f20 c21 f21 c22 f22 hx3
  go_wp2
  refine bodyPost_ret (v := .tuple #[.agg #[.bool neg, .string (bs D), .int .i64 (-(fr.length : Int))], .bool false]) ?_ rfl ⟨rfl, ?_⟩
  · simp [results, Tryz.results83, go_sem, c30, c31, c32]
  · repeat (first | with_reducible exact y3.out | with_reducible refine Ext.setCell ?_ (by simp) _)

set_option maxRecDepth 100000 in
set_option maxHeartbeats 1000000 in
theorem rd_e_some_exp (s s1 d s2 af fr r ag D : List UInt8) (neg : Bool) (ex : Int) (hl : s.length ≤ 60) (hd : d = []) (hf : fr ≠ []) (hfl : fr.length ≤ 100) (hdl : d.length ≤ 100) (he1 : -10000 ≤ ex) (he2 : ex ≤ 10000) (hP1 : ∀ w, Calls Tryz.prog 103 #[.string (bs s), .string ⟨#[45]⟩] w fun e w' => e = .returned (.tuple #[.string (bs s1), .bool neg]) ∧ w = w') (hC1 : ∀ w, Calls Tryz.prog 104 #[.string (bs s1)] w fun e w' => e = .returned (.tuple #[.string (bs d), .string (bs s2)]) ∧ Ext w w') (hP2 : ∀ w, Calls Tryz.prog 103 #[.string (bs s2), .string ⟨#[46]⟩] w fun e w' => e = .returned (.tuple #[.string (bs af), .bool true]) ∧ w = w') (hC2 : ∀ w, Calls Tryz.prog 104 #[.string (bs af)] w fun e w' => e = .returned (.tuple #[.string (bs fr), .string (bs r)]) ∧ Ext w w') (hP3 : ∀ w, Calls Tryz.prog 103 #[.string (bs r), .string ⟨#[101]⟩] w fun e w' => e = .returned (.tuple #[.string (bs ag), .bool true]) ∧ w = w') (hRE : ∀ w, Calls Tryz.prog 105 #[.string (bs ag)] w fun e w' => e = .returned (.tuple #[.int .i64 ex, .bool true]) ∧ Ext w w') (hTZ : ∀ w, Calls Tryz.prog 106 #[.string (bs (d ++ fr)), .string ⟨#[48]⟩] w fun e w' => e = .returned (.string (bs D)) ∧ Ext w w') (w : World) :
    Calls Tryz.prog 83 #[.string (bs s)] w fun e w' => e = .returned (.tuple #[.agg #[.bool neg, .string (bs D), .int .i64 ((-(fr.length : Int)) + ex)], .bool false]) ∧ Ext w w' := by
  have zs : (bs s).size = s.length := rfl
  have hl2 : ¬ (60 : Int) < s.length := by omega
  obtain ⟨m1, m2⟩ := list_none hd
  obtain ⟨m3, m4⟩ := list_some hf
  have happ : bs d ++ bs fr = bs (d ++ fr) := bs_append d fr
  have z1 : (bs d).size = d.length := rfl
  have z2 : (bs fr).size = fr.length := rfl
  have hcat : ¬ 9223372036854775807 < d.length + fr.length := by omega
  have hcat2 : d.length + fr.length ≤ 9223372036854775807 := by omega
  have b3 : (fr.length : Int) ≤ 100 := by omega
  have P1 := Lib.hid hP1
  have C1 := Lib.hid hC1
  have P2 := Lib.hid hP2
  have C2 := Lib.hid hC2
  have P3 := Lib.hid hP3
  have RE := Lib.hid hRE
  have TZ := Lib.hid hTZ
  clear hd hP1 hC1 hP2 hC2 hP3 hRE hTZ hf
  go_enter Tryz.func83, Tryz.ntmps83
  go_wp2_with fail
  refine (P1.out _).mono ?_
  rintro e w' ⟨rfl, rfl⟩
  go_wp2_with fail
  refine (C1.out _).mono ?_
  rintro e w1 ⟨rfl, hx1⟩
  have y1 := Lib.hid (((Ext.refl w).alloc (.cells #[.bool false, .string ⟨#[]⟩, .int .i64 0] 90)).trans hx1)
  have c10 : w1.cell? ⟨w.heap.size, 0, none⟩ = some (.bool false) := (hx1.cell 0 (by simp)).trans (by simp [go_sem])
  have f10 : w1.frozen? ⟨w.heap.size, 0, none⟩ = false := (hx1.froz 0 (by simp)).trans (by simp [go_sem])
  have c11 : w1.cell? ⟨w.heap.size, 1, none⟩ = some (.string ⟨#[]⟩) := (hx1.cell 1 (by simp)).trans (by simp [go_sem])
  have f11 : w1.frozen? ⟨w.heap.size, 1, none⟩ = false := (hx1.froz 1 (by simp)).trans (by simp [go_sem])
  have c12 : w1.cell? ⟨w.heap.size, 2, none⟩ = some (.int .i64 0) := (hx1.cell 2 (by simp)).trans (by simp [go_sem])
  have f12 : w1.frozen? ⟨w.heap.size, 2, none⟩ = false := (hx1.froz 2 (by simp)).trans (by simp [go_sem])
  have q1 : w.heap.size < w1.heap.size := by have := hx1.size; simp at this; omega
  go_wp2_with fail
  refine (P2.out _).mono ?_
  rintro e w' ⟨rfl, rfl⟩
  go_wp2_with fail
  refine (C2.out _).mono ?_
  rintro e w2 ⟨rfl, hx2⟩
  have y2 := Lib.hid (y1.out.trans hx2)
  have c20 : w2.cell? ⟨w.heap.size, 0, none⟩ = some (.bool false) := (hx2.cell 0 q1).trans c10
  have f20 : w2.frozen? ⟨w.heap.size, 0, none⟩ = false := (hx2.froz 0 q1).trans f10
  have c21 : w2.cell? ⟨w.heap.size, 1, none⟩ = some (.string ⟨#[]⟩) := (hx2.cell 1 q1).trans c11
  have f21 : w2.frozen? ⟨w.heap.size, 1, none⟩ = false := (hx2.froz 1 q1).trans f11
  have c22 : w2.cell? ⟨w.heap.size, 2, none⟩ = some (.int .i64 0) := (hx2.cell 2 q1).trans c12
  have f22 : w2.frozen? ⟨w.heap.size, 2, none⟩ = false := (hx2.froz 2 q1).trans f12
  have q2 : w.heap.size < w2.heap.size := Nat.lt_of_lt_of_le q1 hx2.size
  clear c10 f10 c11 f11 c12 f12 hx2
  go_wp2_with fail
  refine (P3.out _).mono ?_
  rintro e w' ⟨rfl, rfl⟩
  go_wp2_with fail
  refine (RE.out _).mono ?_
  rintro e w3 ⟨rfl, hx3⟩
  have y3 := Lib.hid (y2.out.trans hx3)
  have c30 : w3.cell? ⟨w.heap.size, 0, none⟩ = some (.bool false) := (hx3.cell 0 q2).trans c20
  have f30 : w3.frozen? ⟨w.heap.size, 0, none⟩ = false := (hx3.froz 0 q2).trans f20
  have c31 : w3.cell? ⟨w.heap.size, 1, none⟩ = some (.string ⟨#[]⟩) := (hx3.cell 1 q2).trans c21
  have f31 : w3.frozen? ⟨w.heap.size, 1, none⟩ = false := (hx3.froz 1 q2).trans f21
  have c32 : w3.cell? ⟨w.heap.size, 2, none⟩ = some (.int .i64 0) := (hx3.cell 2 q2).trans c22
  have f32 : w3.frozen? ⟨w.heap.size, 2, none⟩ = false := (hx3.froz 2 q2).trans f22
  have q3 : w.heap.size < w3.heap.size := Nat.lt_of_lt_of_le q2 hx3.size
  clear c20 f20 c21 f21 c22 f22 hx3
  go_wp2_with fail
  refine (TZ.out _).mono ?_
  rintro e w4 ⟨rfl, hx4⟩
  have y4 := Lib.hid (y3.out.trans hx4)
  have c40 : w4.cell? ⟨w.heap.size, 0, none⟩ = some (.bool false) := (hx4.cell 0 q3).trans c30
  have f40 : w4.frozen? ⟨w.heap.size, 0, none⟩ = false := (hx4.froz 0 q3).trans f30
  have c41 : w4.cell? ⟨w.heap.size, 1, none⟩ = some (.string ⟨#[]⟩) := (hx4.cell 1 q3).trans c31
  have f41 : w4.frozen? ⟨w.heap.size, 1, none⟩ = false := (hx4.froz 1 q3).trans f31
  have c42 : w4.cell? ⟨w.heap.size, 2, none⟩ = some (.int .i64 0) := (hx4.cell 2 q3).trans c32
  have f42 : w4.frozen? ⟨w.heap.size, 2, none⟩ = false := (hx4.froz 2 q3).trans f32
  have q4 : w.heap.size < w4.heap.size := Nat.lt_of_lt_of_le q3 hx4.size
  clear c30 f30 c31 f31 c32 f32 hx4
  go_wp2
  refine bodyPost_ret (v := .tuple #[.agg #[.bool neg, .string (bs D), .int .i64 ((-(fr.length : Int)) + ex)], .bool false]) ?_ rfl ⟨rfl, ?_⟩
  · simp [results, Tryz.results83, go_sem, c40, c41, c42]
  · repeat (first | with_reducible exact y4.out | with_reducible refine Ext.setCell ?_ (by simp) _)

set_option maxRecDepth 100000 in
set_option maxHeartbeats 1000000 in
theorem rd_e_some_bad (s s1 d s2 af fr r ag D : List UInt8) (neg : Bool) (ex : Int) (hl : s.length ≤ 60) (hd : d = []) (hf : fr ≠ []) (hfl : fr.length ≤ 100) (hdl : d.length ≤ 100) (he1 : -10000 ≤ ex) (he2 : ex ≤ 10000) (hP1 : ∀ w, Calls Tryz.prog 103 #[.string (bs s), .string ⟨#[45]⟩] w fun e w' => e = .returned (.tuple #[.string (bs s1), .bool neg]) ∧ w = w') (hC1 : ∀ w, Calls Tryz.prog 104 #[.string (bs s1)] w fun e w' => e = .returned (.tuple #[.string (bs d), .string (bs s2)]) ∧ Ext w w') (hP2 : ∀ w, Calls Tryz.prog 103 #[.string (bs s2), .string ⟨#[46]⟩] w fun e w' => e = .returned (.tuple #[.string (bs af), .bool true]) ∧ w = w') (hC2 : ∀ w, Calls Tryz.prog 104 #[.string (bs af)] w fun e w' => e = .returned (.tuple #[.string (bs fr), .string (bs r)]) ∧ Ext w w') (hP3 : ∀ w, Calls Tryz.prog 103 #[.string (bs r), .string ⟨#[101]⟩] w fun e w' => e = .returned (.tuple #[.string (bs ag), .bool true]) ∧ w = w') (hRE : ∀ w, Calls Tryz.prog 105 #[.string (bs ag)] w fun e w' => e = .returned (.tuple #[.int .i64 ex, .bool false]) ∧ Ext w w') (hTZ : ∀ w, Calls Tryz.prog 106 #[.string (bs (d ++ fr)), .string ⟨#[48]⟩] w fun e w' => e = .returned (.string (bs D)) ∧ Ext w w') (w : World) :
    Calls Tryz.prog 83 #[.string (bs s)] w fun e w' => e = .returned (.tuple #[.agg #[.bool neg, .string (bs D), .int .i64 ((-(fr.length : Int)) + ex)], .bool false]) ∧ Ext w w' := by
  have zs : (bs s).size = s.length := rfl
  have hl2 : ¬ (60 : Int) < s.length := by omega
  obtain ⟨m1, m2⟩ := list_none hd
  obtain ⟨m3, m4⟩ := list_some hf
  have happ : bs d ++ bs fr = bs (d ++ fr) := bs_append d fr
  have z1 : (bs d).size = d.length := rfl
  have z2 : (bs fr).size = fr.length := rfl
  have hcat : ¬ 9223372036854775807 < d.length + fr.length := by omega
  have hcat2 : d.length + fr.length ≤ 9223372036854775807 := by omega
  have b3 : (fr.length : Int) ≤ 100 := by omega
  have P1 := Lib.hid hP1
  have C1 := Lib.hid hC1
  have P2 := Lib.hid hP2
  have C2 := Lib.hid hC2
  have P3 := Lib.hid hP3
  have RE := Lib.hid hRE
  have TZ := Lib.hid hTZ
  clear hd hP1 hC1 hP2 hC2 hP3 hRE hTZ hf
  go_enter Tryz.func83, Tryz.ntmps83
  go_wp2_with fail
  refine (P1.out _).mono ?_
  rintro e w' ⟨rfl, rfl⟩
  go_wp2_with fail
  refine (C1.out _).mono ?_
  rintro e w1 ⟨rfl, hx1⟩
  have y1 := Lib.hid (((Ext.refl w).alloc (.cells #[.bool false, .string ⟨#[]⟩, .int .i64 0] 90)).trans hx1)
  have c10 : w1.cell? ⟨w.heap.size, 0, none⟩ = some (.bool false) := (hx1.cell 0 (by simp)).trans (by simp [go_sem])
  have f10 : w1.frozen? ⟨w.heap.size, 0, none⟩ = false := (hx1.froz 0 (by simp)).trans (by simp [go_sem])
  have c11 : w1.cell? ⟨w.heap.size, 1, none⟩ = some (.string ⟨#[]⟩) := (hx1.cell 1 (by simp)).trans (by simp [go_sem])
  have f11 : w1.frozen? ⟨w.heap.size, 1, none⟩ = false := (hx1.froz 1 (by simp)).trans (by simp [go_sem])
  have c12 : w1.cell? ⟨w.heap.size, 2, none⟩ = some (.int .i64 0) := (hx1.cell 2 (by simp)).trans (by simp [go_sem])
  have f12 : w1.frozen? ⟨w.heap.size, 2, none⟩ = false := (hx1.froz 2 (by simp)).trans (by simp [go_sem])
  have q1 : w.heap.size < w1.heap.size := by have := hx1.size; simp at this; omega
  go_wp2_with fail
  refine (P2.out _).mono ?_
  rintro e w' ⟨rfl, rfl⟩
  go_wp2_with fail
  refine (C2.out _).mono ?_
  rintro e w2 ⟨rfl, hx2⟩
  have y2 := Lib.hid (y1.out.trans hx2)
  have c20 : w2.cell? ⟨w.heap.size, 0, none⟩ = some (.bool false) := (hx2.cell 0 q1).trans c10
  have f20 : w2.frozen? ⟨w.heap.size, 0, none⟩ = false := (hx2.froz 0 q1).trans f10
  have c21 : w2.cell? ⟨w.heap.size, 1, none⟩ = some (.string ⟨#[]⟩) := (hx2.cell 1 q1).trans c11
  have f21 : w2.frozen? ⟨w.heap.size, 1, none⟩ = false := (hx2.froz 1 q1).trans f11
  have c22 : w2.cell? ⟨w.heap.size, 2, none⟩ = some (.int .i64 0) := (hx2.cell 2 q1).trans c12
  have f22 : w2.frozen? ⟨w.heap.size, 2, none⟩ = false := (hx2.froz 2 q1).trans f12
  have q2 : w.heap.size < w2.heap.size := Nat.lt_of_lt_of_le q1 hx2.size
  clear c10 f10 c11 f11 c12 f12 hx2
  go_wp2_with fail
  refine (P3.out _).mono ?_
  rintro e w' ⟨rfl, rfl⟩
  go_wp2_with fail
  refine (RE.out _).mono ?_
  rintro e w3 ⟨rfl, hx3⟩
  have y3 := Lib.hid (y2.out.trans hx3)
  have c30 : w3.cell? ⟨w.heap.size, 0, none⟩ = some (.bool false) := (hx3.cell 0 q2).trans c20
  have f30 : w3.frozen? ⟨w.heap.size, 0, none⟩ = false := (hx3.froz 0 q2).trans f20
  have c31 : w3.cell? ⟨w.heap.size, 1, none⟩ = some (.string ⟨#[]⟩) := (hx3.cell 1 q2).trans c21
  have f31 : w3.frozen? ⟨w.heap.size, 1, none⟩ = false := (hx3.froz 1 q2).trans f21
  have c32 : w3.cell? ⟨w.heap.size, 2, none⟩ = some (.int .i64 0) := (hx3.cell 2 q2).trans c22
  have f32 : w3.frozen? ⟨w.heap.size, 2, none⟩ = false := (hx3.froz 2 q2).trans f22
  have q3 : w.heap.size < w3.heap.size := Nat.lt_of_lt_of_le q2 hx3.size
  clear c20 f20 c21 f21 c22 f22 hx3
  go_wp2_with fail
  refine (TZ.out _).mono ?_
  rintro e w4 ⟨rfl, hx4⟩
  have y4 := Lib.hid (y3.out.trans hx4)
  have c40 : w4.cell? ⟨w.heap.size, 0, none⟩ = some (.bool false) := (hx4.cell 0 q3).trans c30
  have f40 : w4.frozen? ⟨w.heap.size, 0, none⟩ = false := (hx4.froz 0 q3).trans f30
  have c41 : w4.cell? ⟨w.heap.size, 1, none⟩ = some (.string ⟨#[]⟩) := (hx4.cell 1 q3).trans c31
  have f41 : w4.frozen? ⟨w.heap.size, 1, none⟩ = false := (hx4.froz 1 q3).trans f31
  have c42 : w4.cell? ⟨w.heap.size, 2, none⟩ = some (.int .i64 0) := (hx4.cell 2 q3).trans c32
  have f42 : w4.frozen? ⟨w.heap.size, 2, none⟩ = false := (hx4.froz 2 q3).trans f32
  have q4 : w.heap.size < w4.heap.size := Nat.lt_of_lt_of_le q3 hx4.size
  clear c30 f30 c31 f31 c32 f32 hx4
  go_wp2
  refine bodyPost_ret (v := .tuple #[.agg #[.bool neg, .string (bs D), .int .i64 ((-(fr.length : Int)) + ex)], .bool false]) ?_ rfl ⟨rfl, ?_⟩
  · simp [results, Tryz.results83, go_sem, c40, c41, c42]
  · repeat (first | with_reducible exact y4.out | with_reducible refine Ext.setCell ?_ (by simp) _)

set_option maxRecDepth 100000 in
set_option maxHeartbeats 1000000 in
theorem rd_e_none_end (s s1 d s2 af fr r ag D : List UInt8) (neg : Bool) (_ex : Int) (hl : s.length ≤ 60) (hd : d = []) (hf : fr = []) (hfl : fr.length ≤ 100) (hdl : d.length ≤ 100) (hg : r = []) (hP1 : ∀ w, Calls Tryz.prog 103 #[.string (bs s), .string ⟨#[45]⟩] w fun e w' => e = .returned (.tuple #[.string (bs s1), .bool neg]) ∧ w = w') (hC1 : ∀ w, Calls Tryz.prog 104 #[.string (bs s1)] w fun e w' => e = .returned (.tuple #[.string (bs d), .string (bs s2)]) ∧ Ext w w') (hP2 : ∀ w, Calls Tryz.prog 103 #[.string (bs s2), .string ⟨#[46]⟩] w fun e w' => e = .returned (.tuple #[.string (bs af), .bool true]) ∧ w = w') (hC2 : ∀ w, Calls Tryz.prog 104 #[.string (bs af)] w fun e w' => e = .returned (.tuple #[.string (bs fr), .string (bs r)]) ∧ Ext w w') (hP3 : ∀ w, Calls Tryz.prog 103 #[.string (bs r), .string ⟨#[101]⟩] w fun e w' => e = .returned (.tuple #[.string (bs ag), .bool false]) ∧ w = w') (hTZ : ∀ w, Calls Tryz.prog 106 #[.string (bs (d ++ fr)), .string ⟨#[48]⟩] w fun e w' => e = .returned (.string (bs D)) ∧ Ext w w') (w : World) :
    Calls Tryz.prog 83 #[.string (bs s)] w fun e w' => e = .returned (.tuple #[.agg #[.bool neg, .string (bs D), .int .i64 (-(fr.length : Int))], .bool false]) ∧ Ext w w' := by
  have zs : (bs s).size = s.length := rfl
  have hl2 : ¬ (60 : Int) < s.length := by omega
  obtain ⟨m1, m2⟩ := list_none hd
  obtain ⟨m3, m4⟩ := list_none hf
  have happ : bs d ++ bs fr = bs (d ++ fr) := bs_append d fr
  have z1 : (bs d).size = d.length := rfl
  have z2 : (bs fr).size = fr.length := rfl
  have hcat : ¬ 9223372036854775807 < d.length + fr.length := by omega
  have hcat2 : d.length + fr.length ≤ 9223372036854775807 := by omega
  have b3 : (fr.length : Int) ≤ 100 := by omega
  obtain ⟨m5, m6⟩ := list_none hg
  have P1 := Lib.hid hP1
  have C1 := Lib.hid hC1
  have P2 := Lib.hid hP2
  have C2 := Lib.hid hC2
  have P3 := Lib.hid hP3
  have TZ := Lib.hid hTZ
  clear hd hP1 hC1 hP2 hC2 hP3 hTZ hf hg
  go_enter Tryz.func83, Tryz.ntmps83
  go_wp2_with fail
  refine (P1.out _).mono ?_
  rintro e w' ⟨rfl, rfl⟩
  go_wp2_with fail
  refine (C1.out _).mono ?_
  rintro e w1 ⟨rfl, hx1⟩
  have y1 := Lib.hid (((Ext.refl w).alloc (.cells #[.bool false, .string ⟨#[]⟩, .int .i64 0] 90)).trans hx1)
  have c10 : w1.cell? ⟨w.heap.size, 0, none⟩ = some (.bool false) := (hx1.cell 0 (by simp)).trans (by simp [go_sem])
  have f10 : w1.frozen? ⟨w.heap.size, 0, none⟩ = false := (hx1.froz 0 (by simp)).trans (by simp [go_sem])
  have c11 : w1.cell? ⟨w.heap.size, 1, none⟩ = some (.string ⟨#[]⟩) := (hx1.cell 1 (by simp)).trans (by simp [go_sem])
  have f11 : w1.frozen? ⟨w.heap.size, 1, none⟩ = false := (hx1.froz 1 (by simp)).trans (by simp [go_sem])
  have c12 : w1.cell? ⟨w.heap.size, 2, none⟩ = some (.int .i64 0) := (hx1.cell 2 (by simp)).trans (by simp [go_sem])
  have f12 : w1.frozen? ⟨w.heap.size, 2, none⟩ = false := (hx1.froz 2 (by simp)).trans (by simp [go_sem])
  have q1 : w.heap.size < w1.heap.size := by have := hx1.size; simp at this; omega
  go_wp2_with fail
  refine (P2.out _).mono ?_
  rintro e w' ⟨rfl, rfl⟩
  go_wp2_with fail
  refine (C2.out _).mono ?_
  rintro e w2 ⟨rfl, hx2⟩
  have y2 := Lib.hid (y1.out.trans hx2)
  have c20 : w2.cell? ⟨w.heap.size, 0, none⟩ = some (.bool false) := (hx2.cell 0 q1).trans c10
  have f20 : w2.frozen? ⟨w.heap.size, 0, none⟩ = false := (hx2.froz 0 q1).trans f10
  have c21 : w2.cell? ⟨w.heap.size, 1, none⟩ = some (.string ⟨#[]⟩) := (hx2.cell 1 q1).trans c11
  have f21 : w2.frozen? ⟨w.heap.size, 1, none⟩ = false := (hx2.froz 1 q1).trans f11
  have c22 : w2.cell? ⟨w.heap.size, 2, none⟩ = some (.int .i64 0) := (hx2.cell 2 q1).trans c12
  have f22 : w2.frozen? ⟨w.heap.size, 2, none⟩ = false := (hx2.froz 2 q1).trans f12
  have q2 : w.heap.size < w2.heap.size := Nat.lt_of_lt_of_le q1 hx2.size
  clear c10 f10 c11 f11 c12 f12 hx2
  go_wp2_with fail
  refine (P3.out _).mono ?_
  rintro e w' ⟨rfl, rfl⟩
  go_wp2_with fail
  refine (TZ.out _).mono ?_
  rintro e w3 ⟨rfl, hx3⟩
  have y3 := Lib.hid (y2.out.trans hx3)
  have c30 : w3.cell? ⟨w.heap.size, 0, none⟩ = some (.bool false) := (hx3.cell 0 q2).trans c20
  have f30 : w3.frozen? ⟨w.heap.size, 0, none⟩ = false := (hx3.froz 0 q2).trans f20
  have c31 : w3.cell? ⟨w.heap.size, 1, none⟩ = some (.string ⟨#[]⟩) := (hx3.cell 1 q2).trans c21
  have f31 : w3.frozen? ⟨w.heap.size, 1, none⟩ = false := (hx3.froz 1 q2).trans f21
  have c32 : w3.cell? ⟨w.heap.size, 2, none⟩ = some (.int .i64 0) := (hx3.cell 2 q2).trans c22
  have f32 : w3.frozen? ⟨w.heap.size, 2, none⟩ = false := (hx3.froz 2 q2).trans f22
  have q3 : w.heap.size < w3.heap.size := Nat.lt_of_lt_of_le q2 hx3.size
  clear c20 f20 c21 f21 c22 f22 hx3
  go_wp2
  refine bodyPost_ret (v := .tuple #[.agg #[.bool neg, .string (bs D), .int .i64 (-(fr.length : Int))], .bool false]) ?_ rfl ⟨rfl, ?_⟩
  · simp [results, Tryz.results83, go_sem, c30, c31, c32]
  · repeat (first | with_reducible exact y3.out | with_reducible refine Ext.setCell ?_ (by simp) _)

set_option maxRecDepth 100000 in
set_option maxHeartbeats 1000000 in
theorem rd_e_none_more (s s1 d s2 af fr r ag D : List UInt8) (neg : Bool) (_ex : Int) (hl : s.length ≤ 60) (hd : d = []) (hf : fr = []) (hfl : fr.length ≤ 100) (hdl : d.length ≤ 100) (hg : r ≠ []) (hP1 : ∀ w, Calls Tryz.prog 103 #[.string (bs s), .string ⟨#[45]⟩] w fun e w' => e = .returned (.tuple #[.string (bs s1), .bool neg]) ∧ w = w') (hC1 : ∀ w, Calls Tryz.prog 104 #[.string (bs s1)] w fun e w' => e = .returned (.tuple #[.string (bs d), .string (bs s2)]) ∧ Ext w w') (hP2 : ∀ w, Calls Tryz.prog 103 #[.string (bs s2), .string ⟨#[46]⟩] w fun e w' => e = .returned (.tuple #[.string (bs af), .bool true]) ∧ w = w') (hC2 : ∀ w, Calls Tryz.prog 104 #[.string (bs af)] w fun e w' => e = .returned (.tuple #[.string (bs fr), .string (bs r)]) ∧ Ext w w') (hP3 : ∀ w, Calls Tryz.prog 103 #[.string (bs r), .string ⟨#[101]⟩] w fun e w' => e = .returned (.tuple #[.string (bs ag), .bool false]) ∧ w = w') (hTZ : ∀ w, Calls Tryz.prog 106 #[.string (bs (d ++ fr)), .string ⟨#[48]⟩] w fun e w' => e = .returned (.string (bs D)) ∧ Ext w w') (w : World) :
    Calls Tryz.prog 83 #[.string (bs s)] w fun e w' => e = .returned (.tuple #[.agg #[.bool neg, .string (bs D), .int .i64 (-(fr.length : Int))], .bool false]) ∧ Ext w w' := by
  have zs : (bs s).size = s.length := rfl
  have hl2 : ¬ (60 : Int) < s.length := by omega
  obtain ⟨m1, m2⟩ := list_none hd
  obtain ⟨m3, m4⟩ := list_none hf
  have happ : bs d ++ bs fr = bs (d ++ fr) := bs_append d fr
  have z1 : (bs d).size = d.length := rfl
  have z2 : (bs fr).size = fr.length := rfl
  have hcat : ¬ 9223372036854775807 < d.length + fr.length := by omega
  have hcat2 : d.length + fr.length ≤ 9223372036854775807 := by omega
  have b3 : (fr.length : Int) ≤ 100 := by omega
  obtain ⟨m5, m6⟩ := list_some hg
  have P1 := Lib.hid hP1
  have C1 := Lib.hid hC1
  have P2 := Lib.hid hP2
  have C2 := Lib.hid hC2
  have P3 := Lib.hid hP3
  have TZ := Lib.hid hTZ
  clear hd hP1 hC1 hP2 hC2 hP3 hTZ hf hg
  go_enter Tryz.func83, Tryz.ntmps83
  go_wp2_with fail
  refine (P1.out _).mono ?_
  rintro e w' ⟨rfl, rfl⟩
  go_wp2_with fail
  refine (C1.out _).mono ?_
  rintro e w1 ⟨rfl, hx1⟩
  have y1 := Lib.hid (((Ext.refl w).alloc (.cells #[.bool false, .string ⟨#[]⟩, .int .i64 0] 90)).trans hx1)
  have c10 : w1.cell? ⟨w.heap.size, 0, none⟩ = some (.bool false) := (hx1.cell 0 (by simp)).trans (by simp [go_sem])
  have f10 : w1.frozen? ⟨w.heap.size, 0, none⟩ = false := (hx1.froz 0 (by simp)).trans (by simp [go_sem])
  have c11 : w1.cell? ⟨w.heap.size, 1, none⟩ = some (.string ⟨#[]⟩) := (hx1.cell 1 (by simp)).trans (by simp [go_sem])
  have f11 : w1.frozen? ⟨w.heap.size, 1, none⟩ = false := (hx1.froz 1 (by simp)).trans (by simp [go_sem])
  have c12 : w1.cell? ⟨w.heap.size, 2, none⟩ = some (.int .i64 0) := (hx1.cell 2 (by simp)).trans (by simp [go_sem])
  have f12 : w1.frozen? ⟨w.heap.size, 2, none⟩ = false := (hx1.froz 2 (by simp)).trans (by simp [go_sem])
  have q1 : w.heap.size < w1.heap.size := by have := hx1.size; simp at this; omega
  go_wp2_with fail
  refine (P2.out _).mono ?_
  rintro e w' ⟨rfl, rfl⟩
  go_wp2_with fail
  refine (C2.out _).mono ?_
  rintro e w2 ⟨rfl, hx2⟩
  have y2 := Lib.hid (y1.out.trans hx2)
  have c20 : w2.cell? ⟨w.heap.size, 0, none⟩ = some (.bool false) := (hx2.cell 0 q1).trans c10
  have f20 : w2.frozen? ⟨w.heap.size, 0, none⟩ = false := (hx2.froz 0 q1).trans f10
  have c21 : w2.cell? ⟨w.heap.size, 1, none⟩ = some (.string ⟨#[]⟩) := (hx2.cell 1 q1).trans c11
  have f21 : w2.frozen? ⟨w.heap.size, 1, none⟩ = false := (hx2.froz 1 q1).trans f11
  have c22 : w2.cell? ⟨w.heap.size, 2, none⟩ = some (.int .i64 0) := (hx2.cell 2 q1).trans c12
  have f22 : w2.frozen? ⟨w.heap.size, 2, none⟩ = false := (hx2.froz 2 q1).trans f12
  have q2 : w.heap.size < w2.heap.size := Nat.lt_of_lt_of_le q1 hx2.size
  clear c10 f10 c11 f11 c12 f12 hx2
  go_wp2_with fail
  refine (P3.out _).mono ?_
  rintro e w' ⟨rfl, rfl⟩
  go_wp2_with fail
  refine (TZ.out _).mono ?_
  rintro e w3 ⟨rfl, hx3⟩
  have y3 := Lib.hid (y2.out.trans hx3)
  have c30 : w3.cell? ⟨w.heap.size, 0, none⟩ = some (.bool false) := (hx3.cell 0 q2).trans c20
  have f30 : w3.frozen? ⟨w.heap.size, 0, none⟩ = false := (hx3.froz 0 q2).trans f20
  have c31 : w3.cell? ⟨w.heap.size, 1, none⟩ = some (.string ⟨#[]⟩) := (hx3.cell 1 q2).trans c21
  have f31 : w3.frozen? ⟨w.heap.size, 1, none⟩ = false := (hx3.froz 1 q2).trans f21
  have c32 : w3.cell? ⟨w.heap.size, 2, none⟩ = some (.int .i64 0) := (hx3.cell 2 q2).trans c22
  have f32 : w3.frozen? ⟨w.heap.size, 2, none⟩ = false := (hx3.froz 2 q2).trans f22
  have q3 : w.heap.size < w3.heap.size := Nat.lt_of_lt_of_le q2 hx3.size
  clear c20 f20 c21 f21 c22 f22 hx3
  go_wp2
  refine bodyPost_ret (v := .tuple #[.agg #[.bool neg, .string (bs D), .int .i64 (-(fr.length : Int))], .bool false]) ?_ rfl ⟨rfl, ?_⟩
  · simp [results, Tryz.results83, go_sem, c30, c31, c32]
  · repeat (first | with_reducible exact y3.out | with_reducible refine Ext.setCell ?_ (by simp) _)

set_option maxRecDepth 100000 in
set_option maxHeartbeats 1000000 in
theorem rd_e_none_exp (s s1 d s2 af fr r ag D : List UInt8) (neg : Bool) (ex : Int) (hl : s.length ≤ 60) (hd : d = []) (hf : fr = []) (hfl : fr.length ≤ 100) (hdl : d.length ≤ 100) (he1 : -10000 ≤ ex) (he2 : ex ≤ 10000) (hP1 : ∀ w, Calls Tryz.prog 103 #[.string (bs s), .string ⟨#[45]⟩] w fun e w' => e = .returned (.tuple #[.string (bs s1), .bool neg]) ∧ w = w') (hC1 : ∀ w, Calls Tryz.prog 104 #[.string (bs s1)] w fun e w' => e = .returned (.tuple #[.string (bs d), .string (bs s2)]) ∧ Ext w w') (hP2 : ∀ w, Calls Tryz.prog 103 #[.string (bs s2), .string ⟨#[46]⟩] w fun e w' => e = .returned (.tuple #[.string (bs af), .bool true]) ∧ w = w') (hC2 : ∀ w, Calls Tryz.prog 104 #[.string (bs af)] w fun e w' => e = .returned (.tuple #[.string (bs fr), .string (bs r)]) ∧ Ext w w') (hP3 : ∀ w, Calls Tryz.prog 103 #[.string (bs r), .string ⟨#[101]⟩] w fun e w' => e = .returned (.tuple #[.string (bs ag), .bool true]) ∧ w = w') (hRE : ∀ w, Calls Tryz.prog 105 #[.string (bs ag)] w fun e w' => e = .returned (.tuple #[.int .i64 ex, .bool true]) ∧ Ext w w') (hTZ : ∀ w, Calls Tryz.prog 106 #[.string (bs (d ++ fr)), .string ⟨#[48]⟩] w fun e w' => e = .returned (.string (bs D)) ∧ Ext w w') (w : World) :
    Calls Tryz.prog 83 #[.string (bs s)] w fun e w' => e = .returned (.tuple #[.agg #[.bool neg, .string (bs D), .int .i64 ((-(fr.length : Int)) + ex)], .bool false]) ∧ Ext w w' := by
  have zs : (bs s).size = s.length := rfl
  have hl2 : ¬ (60 : Int) < s.length := by omega
  obtain ⟨m1, m2⟩ := list_none hd
  obtain ⟨m3, m4⟩ := list_none hf
  have happ : bs d ++ bs fr = bs (d ++ fr) := bs_append d fr
  have z1 : (bs d).size = d.length := rfl
  have z2 : (bs fr).size = fr.length := rfl
  have hcat : ¬ 9223372036854775807 < d.length + fr.length := by omega
  have hcat2 : d.length + fr.length ≤ 9223372036854775807 := by omega
  have b3 : (fr.length : Int) ≤ 100 := by omega
  have P1 := Lib.hid hP1
  have C1 := Lib.hid hC1
  have P2 := Lib.hid hP2
  have C2 := Lib.hid hC2
  have P3 := Lib.hid hP3
  have RE := Lib.hid hRE
  have TZ := Lib.hid hTZ
  clear hd hP1 hC1 hP2 hC2 hP3 hRE hTZ hf
  go_enter Tryz.func83, Tryz.ntmps83
  go_wp2_with fail
  refine (P1.out _).mono ?_
  rintro e w' ⟨rfl, rfl⟩
  go_wp2_with fail
  refine (C1.out _).mono ?_
  rintro e w1 ⟨rfl, hx1⟩
  have y1 := Lib.hid (((Ext.refl w).alloc (.cells #[.bool false, .string ⟨#[]⟩, .int .i64 0] 90)).trans hx1)
  have c10 : w1.cell? ⟨w.heap.size, 0, none⟩ = some (.bool false) := (hx1.cell 0 (by simp)).trans (by simp [go_sem])
  have f10 : w1.frozen? ⟨w.heap.size, 0, none⟩ = false := (hx1.froz 0 (by simp)).trans (by simp [go_sem])
  have c11 : w1.cell? ⟨w.heap.size, 1, none⟩ = some (.string ⟨#[]⟩) := (hx1.cell 1 (by simp)).trans (by simp [go_sem])
  have f11 : w1.frozen? ⟨w.heap.size, 1, none⟩ = false := (hx1.froz 1 (by simp)).trans (by simp [go_sem])
  have c12 : w1.cell? ⟨w.heap.size, 2, none⟩ = some (.int .i64 0) := (hx1.cell 2 (by simp)).trans (by simp [go_sem])
  have f12 : w1.frozen? ⟨w.heap.size, 2, none⟩ = false := (hx1.froz 2 (by simp)).trans (by simp [go_sem])
  have q1 : w.heap.size < w1.heap.size := by have := hx1.size; simp at this; omega
  go_wp2_with fail
  refine (P2.out _).mono ?_
  rintro e w' ⟨rfl, rfl⟩
  go_wp2_with fail
  refine (C2.out _).mono ?_
  rintro e w2 ⟨rfl, hx2⟩
  have y2 := Lib.hid (y1.out.trans hx2)
  have c20 : w2.cell? ⟨w.heap.size, 0, none⟩ = some (.bool false) := (hx2.cell 0 q1).trans c10
  have f20 : w2.frozen? ⟨w.heap.size, 0, none⟩ = false := (hx2.froz 0 q1).trans f10
  have c21 : w2.cell? ⟨w.heap.size, 1, none⟩ = some (.string ⟨#[]⟩) := (hx2.cell 1 q1).trans c11
  have f21 : w2.frozen? ⟨w.heap.size, 1, none⟩ = false := (hx2.froz 1 q1).trans f11
  have c22 : w2.cell? ⟨w.heap.size, 2, none⟩ = some (.int .i64 0) := (hx2.cell 2 q1).trans c12
  have f22 : w2.frozen? ⟨w.heap.size, 2, none⟩ = false := (hx2.froz 2 q1).trans f12
  have q2 : w.heap.size < w2.heap.size := Nat.lt_of_lt_of_le q1 hx2.size
  clear c10 f10 c11 f11 c12 f12 hx2
  go_wp2_with fail
  refine (P3.out _).mono ?_
  rintro e w' ⟨rfl, rfl⟩
  go_wp2_with fail
  refine (RE.out _).mono ?_
  rintro e w3 ⟨rfl, hx3⟩
  have y3 := Lib.hid (y2.out.trans hx3)
  have c30 : w3.cell? ⟨w.heap.size, 0, none⟩ = some (.bool false) := (hx3.cell 0 q2).trans c20
  have f30 : w3.frozen? ⟨w.heap.size, 0, none⟩ = false := (hx3.froz 0 q2).trans f20
  have c31 : w3.cell? ⟨w.heap.size, 1, none⟩ = some (.string ⟨#[]⟩) := (hx3.cell 1 q2).trans c21
  have f31 : w3.frozen? ⟨w.heap.size, 1, none⟩ = false := (hx3.froz 1 q2).trans f21
  have c32 : w3.cell? ⟨w.heap.size, 2, none⟩ = some (.int .i64 0) := (hx3.cell 2 q2).trans c22
  have f32 : w3.frozen? ⟨w.heap.size, 2, none⟩ = false := (hx3.froz 2 q2).trans f22
  have q3 : w.heap.size < w3.heap.size := Nat.lt_of_lt_of_le q2 hx3.size
  clear c20 f20 c21 f21 c22 f22 hx3
  go_wp2_with fail
  refine (TZ.out _).mono ?_
  rintro e w4 ⟨rfl, hx4⟩
  have y4 := Lib.hid (y3.out.trans hx4)
  have c40 : w4.cell? ⟨w.heap.size, 0, none⟩ = some (.bool false) := (hx4.cell 0 q3).trans c30
  have f40 : w4.frozen? ⟨w.heap.size, 0, none⟩ = false := (hx4.froz 0 q3).trans f30
  have c41 : w4.cell? ⟨w.heap.size, 1, none⟩ = some (.string ⟨#[]⟩) := (hx4.cell 1 q3).trans c31
  have f41 : w4.frozen? ⟨w.heap.size, 1, none⟩ = false := (hx4.froz 1 q3).trans f31
  have c42 : w4.cell? ⟨w.heap.size, 2, none⟩ = some (.int .i64 0) := (hx4.cell 2 q3).trans c32
  have f42 : w4.frozen? ⟨w.heap.size, 2, none⟩ = false := (hx4.froz 2 q3).trans f32
  have q4 : w.heap.size < w4.heap.size := Nat.lt_of_lt_of_le q3 hx4.size
  clear c30 f30 c31 f31 c32 f32 hx4
  go_wp2
  refine bodyPost_ret (v := .tuple #[.agg #[.bool neg, .string (bs D), .int .i64 ((-(fr.length : Int)) + ex)], .bool false]) ?_ rfl ⟨rfl, ?_⟩
  · simp [results, Tryz.results83, go_sem, c40, c41, c42]
  · repeat (first | with_reducible exact y4.out | with_reducible refine Ext.setCell ?_ (by simp) _)

set_option maxRecDepth 100000 in
set_option maxHeartbeats 1000000 in
theorem rd_e_none_bad (s s1 d s2 af fr r ag D : List UInt8) (neg : Bool) (ex : Int) (hl : s.length ≤ 60) (hd : d = []) (hf : fr = []) (hfl : fr.length ≤ 100) (hdl : d.length ≤ 100) (he1 : -10000 ≤ ex) (he2 : ex ≤ 10000) (hP1 : ∀ w, Calls Tryz.prog 103 #[.string (bs s), .string ⟨#[45]⟩] w fun e w' => e = .returned (.tuple #[.string (bs s1), .bool neg]) ∧ w = w') (hC1 : ∀ w, Calls Tryz.prog 104 #[.string (bs s1)] w fun e w' => e = .returned (.tuple #[.string (bs d), .string (bs s2)]) ∧ Ext w w') (hP2 : ∀ w, Calls Tryz.prog 103 #[.string (bs s2), .string ⟨#[46]⟩] w fun e w' => e = .returned (.tuple #[.string (bs af), .bool true]) ∧ w = w') (hC2 : ∀ w, Calls Tryz.prog 104 #[.string (bs af)] w fun e w' => e = .returned (.tuple #[.string (bs fr), .string (bs r)]) ∧ Ext w w') (hP3 : ∀ w, Calls Tryz.prog 103 #[.string (bs r), .string ⟨#[101]⟩] w fun e w' => e = .returned (.tuple #[.string (bs ag), .bool true]) ∧ w = w') (hRE : ∀ w, Calls Tryz.prog 105 #[.string (bs ag)] w fun e w' => e = .returned (.tuple #[.int .i64 ex, .bool false]) ∧ Ext w w') (hTZ : ∀ w, Calls Tryz.prog 106 #[.string (bs (d ++ fr)), .string ⟨#[48]⟩] w fun e w' => e = .returned (.string (bs D)) ∧ Ext w w') (w : World) :
    Calls Tryz.prog 83 #[.string (bs s)] w fun e w' => e = .returned (.tuple #[.agg #[.bool neg, .string (bs D), .int .i64 ((-(fr.length : Int)) + ex)], .bool false]) ∧ Ext w w' := by
  have zs : (bs s).size = s.length := rfl
  have hl2 : ¬ (60 : Int) < s.length := by omega
  obtain ⟨m1, m2⟩ := list_none hd
  obtain ⟨m3, m4⟩ := list_none hf
  have happ : bs d ++ bs fr = bs (d ++ fr) := bs_append d fr
  have z1 : (bs d).size = d.length := rfl
  have z2 : (bs fr).size = fr.length := rfl
  have hcat : ¬ 9223372036854775807 < d.length + fr.length := by omega
  have hcat2 : d.length + fr.length ≤ 9223372036854775807 := by omega
  have b3 : (fr.length : Int) ≤ 100 := by omega
  have P1 := Lib.hid hP1
  have C1 := Lib.hid hC1
  have P2 := Lib.hid hP2
  have C2 := Lib.hid hC2
  have P3 := Lib.hid hP3
  have RE := Lib.hid hRE
  have TZ := Lib.hid hTZ
  clear hd hP1 hC1 hP2 hC2 hP3 hRE hTZ hf
  go_enter Tryz.func83, Tryz.ntmps83
  go_wp2_with fail
  refine (P1.out _).mono ?_
  rintro e w' ⟨rfl, rfl⟩
  go_wp2_with fail
  refine (C1.out _).mono ?_
  rintro e w1 ⟨rfl, hx1⟩
  have y1 := Lib.hid (((Ext.refl w).alloc (.cells #[.bool false, .string ⟨#[]⟩, .int .i64 0] 90)).trans hx1)
  have c10 : w1.cell? ⟨w.heap.size, 0, none⟩ = some (.bool false) := (hx1.cell 0 (by simp)).trans (by simp [go_sem])
  have f10 : w1.frozen? ⟨w.heap.size, 0, none⟩ = false := (hx1.froz 0 (by simp)).trans (by simp [go_sem])
  have c11 : w1.cell? ⟨w.heap.size, 1, none⟩ = some (.string ⟨#[]⟩) := (hx1.cell 1 (by simp)).trans (by simp [go_sem])
  have f11 : w1.frozen? ⟨w.heap.size, 1, none⟩ = false := (hx1.froz 1 (by simp)).trans (by simp [go_sem])
  have c12 : w1.cell? ⟨w.heap.size, 2, none⟩ = some (.int .i64 0) := (hx1.cell 2 (by simp)).trans (by simp [go_sem])
  have f12 : w1.frozen? ⟨w.heap.size, 2, none⟩ = false := (hx1.froz 2 (by simp)).trans (by simp [go_sem])
  have q1 : w.heap.size < w1.heap.size := by have := hx1.size; simp at this; omega
  go_wp2_with fail
  refine (P2.out _).mono ?_
  rintro e w' ⟨rfl, rfl⟩
  go_wp2_with fail
  refine (C2.out _).mono ?_
  rintro e w2 ⟨rfl, hx2⟩
  have y2 := Lib.hid (y1.out.trans hx2)
  have c20 : w2.cell? ⟨w.heap.size, 0, none⟩ = some (.bool false) := (hx2.cell 0 q1).trans c10
  have f20 : w2.frozen? ⟨w.heap.size, 0, none⟩ = false := (hx2.froz 0 q1).trans f10
  have c21 : w2.cell? ⟨w.heap.size, 1, none⟩ = some (.string ⟨#[]⟩) := (hx2.cell 1 q1).trans c11
  have f21 : w2.frozen? ⟨w.heap.size, 1, none⟩ = false := (hx2.froz 1 q1).trans f11
  have c22 : w2.cell? ⟨w.heap.size, 2, none⟩ = some (.int .i64 0) := (hx2.cell 2 q1).trans c12
  have f22 : w2.frozen? ⟨w.heap.size, 2, none⟩ = false := (hx2.froz 2 q1).trans f12
  have q2 : w.heap.size < w2.heap.size := Nat.lt_of_lt_of_le q1 hx2.size
  clear c10 f10 c11 f11 c12 f12 hx2
  go_wp2_with fail
  refine (P3.out _).mono ?_
  rintro e w' ⟨rfl, rfl⟩
  go_wp2_with fail
  refine (RE.out _).mono ?_
  rintro e w3 ⟨rfl, hx3⟩
  have y3 := Lib.hid (y2.out.trans hx3)
  have c30 : w3.cell? ⟨w.heap.size, 0, none⟩ = some (.bool false) := (hx3.cell 0 q2).trans c20
  have f30 : w3.frozen? ⟨w.heap.size, 0, none⟩ = false := (hx3.froz 0 q2).trans f20
  have c31 : w3.cell? ⟨w.heap.size, 1, none⟩ = some (.string ⟨#[]⟩) := (hx3.cell 1 q2).trans c21
  have f31 : w3.frozen? ⟨w.heap.size, 1, none⟩ = false := (hx3.froz 1 q2).trans f21
  have c32 : w3.cell? ⟨w.heap.size, 2, none⟩ = some (.int .i64 0) := (hx3.cell 2 q2).trans c22
  have f32 : w3.frozen? ⟨w.heap.size, 2, none⟩ = false := (hx3.froz 2 q2).trans f22
  have q3 : w.heap.size < w3.heap.size := Nat.lt_of_lt_of_le q2 hx3.size
  clear c20 f20 c21 f21 c22 f22 hx3
  go_wp2_with fail
  refine (TZ.out _).mono ?_
  rintro e w4 ⟨rfl, hx4⟩
  have y4 := Lib.hid (y3.out.trans hx4)
  have c40 : w4.cell? ⟨w.heap.size, 0, none⟩ = some (.bool false) := (hx4.cell 0 q3).trans c30
  have f40 : w4.frozen? ⟨w.heap.size, 0, none⟩ = false := (hx4.froz 0 q3).trans f30
  have c41 : w4.cell? ⟨w.heap.size, 1, none⟩ = some (.string ⟨#[]⟩) := (hx4.cell 1 q3).trans c31
  have f41 : w4.frozen? ⟨w.heap.size, 1, none⟩ = false := (hx4.froz 1 q3).trans f31
  have c42 : w4.cell? ⟨w.heap.size, 2, none⟩ = some (.int .i64 0) := (hx4.cell 2 q3).trans c32
  have f42 : w4.frozen? ⟨w.heap.size, 2, none⟩ = false := (hx4.froz 2 q3).trans f32
  have q4 : w.heap.size < w4.heap.size := Nat.lt_of_lt_of_le q3 hx4.size
  clear c30 f30 c31 f31 c32 f32 hx4
  go_wp2
  refine bodyPost_ret (v := .tuple #[.agg #[.bool neg, .string (bs D), .int .i64 ((-(fr.length : Int)) + ex)], .bool false]) ?_ rfl ⟨rfl, ?_⟩
  · simp [results, Tryz.results83, go_sem, c40, c41, c42]
  · repeat (first | with_reducible exact y4.out | with_reducible refine Ext.setCell ?_ (by simp) _)

end Go.Proofs.YtogfiekbikechaaGreatDoor
