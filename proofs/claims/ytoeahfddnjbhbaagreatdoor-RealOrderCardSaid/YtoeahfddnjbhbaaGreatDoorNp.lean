/- Layer 2: what the program's rounded gives, or that it panics. -/
import Derived.Test.YtoeahfddnjbhbaaGreatDoorNo
namespace Go.Proofs.YtoeahfddnjbhbaaGreatDoor
open Go.RowKit

/-- The panic of a rounding that has no value. -/
def RangePanic : Ending := .panicked [{ v := .iface 24 (.int .i64 3), recovered := false }]

set_option maxHeartbeats 1000000 in
theorem rd_zero (neg more : Bool) (man : Nat) (exp S2 : Int) (w : World) 
    (hs : ∀ w, Calls Tryz.prog 106 #[.agg #[.bool neg, .int .u64 man, .int .i64 exp, .bool more]] w fun e w' => e = .returned (.tuple #[.int .i64 0, .int .i64 S2]) ∧ Ext w w') :
    Calls Tryz.prog 66 #[.agg #[.bool neg, .int .u64 man, .int .i64 exp, .bool more]] w fun e w' => e = .returned (.agg #[.int .i64 0, .int .i64 0]) ∧ Ext w w' := by
  have HS := Lib.hid hs
  clear hs
  go_enter Tryz.func66, Tryz.ntmps66
  go_wp2_with fail
  refine (HS.out _).mono ?_
  rintro e w1 ⟨rfl, hx⟩
  have s1 := hx.size
  simp at s1
  have c0 : w1.cell? ⟨w.heap.size + 1, 0, none⟩ = some (.int .i64 0) := (hx.cell 0 (by simp)).trans (by simp [go_sem])
  have c1 : w1.cell? ⟨w.heap.size + 1, 1, none⟩ = some (.int .i64 0) := (hx.cell 1 (by simp)).trans (by simp [go_sem])
  have f0 : w1.frozen? ⟨w.heap.size + 1, 0, none⟩ = false := (hx.froz 0 (by simp)).trans (by simp [go_sem])
  have f1 : w1.frozen? ⟨w.heap.size + 1, 1, none⟩ = false := (hx.froz 1 (by simp)).trans (by simp [go_sem])
  have b0 : w1.cell? ⟨w.heap.size, 0, none⟩ = some (.bool neg) := (hx.cell 0 (by simp; omega)).trans (by simp [go_sem])
  have X := Lib.hid (((Ext.refl w).alloc (.cells #[.bool neg, .int .u64 man, .int .i64 exp, .bool more] 73)).alloc (.cells #[.int .i64 0, .int .i64 0] 23) |>.trans hx)
  clear hx s1
  go_wp2
  refine bodyPost_ret (v := .agg #[.int .i64 0, .int .i64 0]) ?_ rfl ⟨rfl, ?_⟩
  · simp [results, Tryz.results66, go_sem, c0, c1]
  · repeat (first | with_reducible exact X.out | with_reducible refine Ext.setCell ?_ (by simp) _)

set_option maxHeartbeats 1000000 in
theorem rd_range (neg more : Bool) (man : Nat) (exp S2 : Int) (w : World) (S1 : Int) (h0 : (S1 == 0) = false) (h2 : 150 < S2)
    (hs : ∀ w, Calls Tryz.prog 106 #[.agg #[.bool neg, .int .u64 man, .int .i64 exp, .bool more]] w fun e w' => e = .returned (.tuple #[.int .i64 S1, .int .i64 S2]) ∧ Ext w w') :
    Calls Tryz.prog 66 #[.agg #[.bool neg, .int .u64 man, .int .i64 exp, .bool more]] w fun e w' => e = RangePanic ∧ Ext w w' := by
  have HS := Lib.hid hs
  clear hs
  go_enter Tryz.func66, Tryz.ntmps66
  go_wp2_with fail
  refine (HS.out _).mono ?_
  rintro e w1 ⟨rfl, hx⟩
  have s1 := hx.size
  simp at s1
  have c0 : w1.cell? ⟨w.heap.size + 1, 0, none⟩ = some (.int .i64 0) := (hx.cell 0 (by simp)).trans (by simp [go_sem])
  have c1 : w1.cell? ⟨w.heap.size + 1, 1, none⟩ = some (.int .i64 0) := (hx.cell 1 (by simp)).trans (by simp [go_sem])
  have f0 : w1.frozen? ⟨w.heap.size + 1, 0, none⟩ = false := (hx.froz 0 (by simp)).trans (by simp [go_sem])
  have f1 : w1.frozen? ⟨w.heap.size + 1, 1, none⟩ = false := (hx.froz 1 (by simp)).trans (by simp [go_sem])
  have b0 : w1.cell? ⟨w.heap.size, 0, none⟩ = some (.bool neg) := (hx.cell 0 (by simp; omega)).trans (by simp [go_sem])
  have X := Lib.hid (((Ext.refl w).alloc (.cells #[.bool neg, .int .u64 man, .int .i64 exp, .bool more] 73)).alloc (.cells #[.int .i64 0, .int .i64 0] 23) |>.trans hx)
  clear hx s1
  go_wp2
  exact ⟨rfl, rfl, X.out⟩

set_option maxHeartbeats 1000000 in
theorem rd_pos (neg more : Bool) (man : Nat) (exp S2 : Int) (w : World) (S1 : Int) (h0 : (S1 == 0) = false) (h2 : ¬ 150 < S2) (hn : neg = false)
    (hs : ∀ w, Calls Tryz.prog 106 #[.agg #[.bool neg, .int .u64 man, .int .i64 exp, .bool more]] w fun e w' => e = .returned (.tuple #[.int .i64 S1, .int .i64 S2]) ∧ Ext w w') :
    Calls Tryz.prog 66 #[.agg #[.bool neg, .int .u64 man, .int .i64 exp, .bool more]] w fun e w' => e = .returned (.agg #[.int .i64 S1, .int .i64 S2]) ∧ Ext w w' := by
  subst hn
  have HS := Lib.hid hs
  clear hs
  go_enter Tryz.func66, Tryz.ntmps66
  go_wp2_with fail
  refine (HS.out _).mono ?_
  rintro e w1 ⟨rfl, hx⟩
  have s1 := hx.size
  simp at s1
  have c0 : w1.cell? ⟨w.heap.size + 1, 0, none⟩ = some (.int .i64 0) := (hx.cell 0 (by simp)).trans (by simp [go_sem])
  have c1 : w1.cell? ⟨w.heap.size + 1, 1, none⟩ = some (.int .i64 0) := (hx.cell 1 (by simp)).trans (by simp [go_sem])
  have f0 : w1.frozen? ⟨w.heap.size + 1, 0, none⟩ = false := (hx.froz 0 (by simp)).trans (by simp [go_sem])
  have f1 : w1.frozen? ⟨w.heap.size + 1, 1, none⟩ = false := (hx.froz 1 (by simp)).trans (by simp [go_sem])
  have b0 : w1.cell? ⟨w.heap.size, 0, none⟩ = some (.bool false) := (hx.cell 0 (by simp; omega)).trans (by simp [go_sem])
  have X := Lib.hid (((Ext.refl w).alloc (.cells #[.bool false, .int .u64 man, .int .i64 exp, .bool more] 73)).alloc (.cells #[.int .i64 0, .int .i64 0] 23) |>.trans hx)
  clear hx s1
  go_wp2
  refine bodyPost_ret (v := .agg #[.int .i64 S1, .int .i64 S2]) ?_ rfl ⟨rfl, ?_⟩
  · simp [results, Tryz.results66, go_sem, c0, c1]
  · repeat (first | with_reducible exact X.out | with_reducible refine Ext.setCell ?_ (by simp) _)

set_option maxHeartbeats 1000000 in
theorem rd_neg (neg more : Bool) (man : Nat) (exp S2 : Int) (w : World) (S1 : Int) (h0 : (S1 == 0) = false) (h2 : ¬ 150 < S2) (hn : neg = true) (l0 : 0 ≤ S1) (l1 : S1 ≤ 16777216)
    (hs : ∀ w, Calls Tryz.prog 106 #[.agg #[.bool neg, .int .u64 man, .int .i64 exp, .bool more]] w fun e w' => e = .returned (.tuple #[.int .i64 S1, .int .i64 S2]) ∧ Ext w w') :
    Calls Tryz.prog 66 #[.agg #[.bool neg, .int .u64 man, .int .i64 exp, .bool more]] w fun e w' => e = .returned (.agg #[.int .i64 (-S1), .int .i64 S2]) ∧ Ext w w' := by
  subst hn
  have HS := Lib.hid hs
  clear hs
  go_enter Tryz.func66, Tryz.ntmps66
  go_wp2_with fail
  refine (HS.out _).mono ?_
  rintro e w1 ⟨rfl, hx⟩
  have s1 := hx.size
  simp at s1
  have c0 : w1.cell? ⟨w.heap.size + 1, 0, none⟩ = some (.int .i64 0) := (hx.cell 0 (by simp)).trans (by simp [go_sem])
  have c1 : w1.cell? ⟨w.heap.size + 1, 1, none⟩ = some (.int .i64 0) := (hx.cell 1 (by simp)).trans (by simp [go_sem])
  have f0 : w1.frozen? ⟨w.heap.size + 1, 0, none⟩ = false := (hx.froz 0 (by simp)).trans (by simp [go_sem])
  have f1 : w1.frozen? ⟨w.heap.size + 1, 1, none⟩ = false := (hx.froz 1 (by simp)).trans (by simp [go_sem])
  have b0 : w1.cell? ⟨w.heap.size, 0, none⟩ = some (.bool true) := (hx.cell 0 (by simp; omega)).trans (by simp [go_sem])
  have X := Lib.hid (((Ext.refl w).alloc (.cells #[.bool true, .int .u64 man, .int .i64 exp, .bool more] 73)).alloc (.cells #[.int .i64 0, .int .i64 0] 23) |>.trans hx)
  clear hx s1
  go_wp2
  refine bodyPost_ret (v := .agg #[.int .i64 (-S1), .int .i64 S2]) ?_ rfl ⟨rfl, ?_⟩
  · simp [results, Tryz.results66, go_sem, c0, c1]
  · repeat (first | with_reducible exact X.out | with_reducible refine Ext.setCell ?_ (by simp) _)

theorem rounded_any (neg more : Bool) (man : Nat) (exp : Int) (hm : man < 18446744073709551616) (he : -1000000 ≤ exp) (he2 : exp ≤ 1000000) (w : World) :
    Calls Tryz.prog 66 #[.agg #[.bool neg, .int .u64 man, .int .i64 exp, .bool more]] w fun e w' =>
      (match roundV neg man exp more with | some (m, x) => e = .returned (.agg #[.int .i64 m, .int .i64 x]) | none => e = RangePanic) ∧ Ext w w' := by
  have hs := shortened_any neg more man exp hm he he2
  have hb := short_bound (man := man) (exp := exp) more
  unfold roundV
  simp only
  generalize shortV man exp more = S at *
  obtain ⟨S1, S2⟩ := S
  simp only at *
  by_cases h0 : S1 = 0
  · subst h0
    rw [if_pos rfl]
    exact rd_zero neg more man exp S2 w hs
  · have h0' : ((S1 : Int) == 0) = false := by rw [beq_eq_false_iff_ne]; omega
    rw [if_neg h0]
    by_cases h2 : 150 < S2
    · rw [if_pos h2]
      exact rd_range neg more man exp S2 w _ h0' h2 hs
    · rw [if_neg h2]
      cases hn : neg with
      | false =>
        subst hn
        simp only [Bool.false_eq_true, if_false]
        exact rd_pos false more man exp S2 w _ h0' h2 rfl hs
      | true =>
        subst hn
        simp only [if_true]
        exact rd_neg true more man exp S2 w _ h0' h2 rfl (by omega) (by omega) hs
end Go.Proofs.YtoeahfddnjbhbaaGreatDoor
