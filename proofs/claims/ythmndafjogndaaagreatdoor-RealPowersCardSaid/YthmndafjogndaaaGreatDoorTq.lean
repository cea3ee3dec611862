/- Layer 2: Pow. -/
import Derived.Test.YthmndafjogndaaaGreatDoorTp
import Derived.Test.YthmndafjogndaaaGreatDoorGr
namespace Go.Proofs.YthmndafjogndaaaGreatDoor
open Go.RowKit

/-- What Pow rounds to, for a real and an exponent. -/
def powR (m x n : Int) : Option (Int × Int) :=
  if 0 ≤ n then powF m x n.toNat n.toNat else (powF m x (-n).toNat (-n).toNat).bind fun q => if q.1 = 0 then none else (quotV 8388608 (-23) q.1 q.2).rd
/-- The blocks of Pow's closure: the result's, and the power's. -/
structure P1T (w : World) (b : Nat) (a x : Int) (u : World) : Prop where
  e : Ext w u
  sz : w.heap.size < b ∧ b < u.heap.size
  p0 : u.cell? ⟨b, 0, none⟩ = some (.int .i64 a)
  p1 : u.cell? ⟨b, 1, none⟩ = some (.int .i64 x)
  c0 : u.cell? ⟨w.heap.size, 0, none⟩ = some (.int .i64 0)
  c1 : u.cell? ⟨w.heap.size, 1, none⟩ = some (.int .i64 0)
  f0 : ∀ j, u.frozen? ⟨w.heap.size, j, none⟩ = false
theorem P1T.later {w u v : World} {b : Nat} {a x : Int} (h : P1T w b a x u) (hx : Ext u v) : P1T w b a x v := by
  obtain ⟨s1, s2⟩ := h.sz
  exact ⟨h.e.trans hx, ⟨s1, Nat.lt_of_lt_of_le s2 hx.size⟩, (hx.cell 0 (by omega)).trans h.p0, (hx.cell 1 (by omega)).trans h.p1,
    (hx.cell 0 (by omega)).trans h.c0, (hx.cell 1 (by omega)).trans h.c1, fun j => (hx.froz j (by omega)).trans (h.f0 j)⟩

set_option maxRecDepth 100000 in
set_option maxHeartbeats 2000000 in
theorem pow1_pos_none (m x n l : Int) (bn bx : Nat) (w : World) (n0 : ∀ ob, (w.alloc ob).cell? ⟨bn, 0, none⟩ = some (.int .i64 n)) (p0 : ∀ ob, (w.alloc ob).cell? ⟨bx, 0, none⟩ = some (.int .i64 m)) (p1 : ∀ ob, (w.alloc ob).cell? ⟨bx, 1, none⟩ = some (.int .i64 x)) (hn : n ≥ 0) (hl : IntKind.u64.wrap n = l) (HP : ∀ w, Calls Tryz.prog 77 #[.agg #[.int .i64 m, .int .i64 x], .int .u64 l] w fun e w' => e = RangePanic ∧ Ext w w') : Calls Tryz.prog 76 #[.pointer (some ⟨bn, 0, none⟩), .pointer (some ⟨bx, 0, none⟩)] w fun e w' => e = RangePanic ∧ Ext w w' := by
  go_enter Tryz.func76, Tryz.ntmps76
  go_wp2_with fail
  refine (HP _).mono ?_
  rintro e w1 ⟨rfl, hx⟩
  exact ⟨rfl, rfl, ((Ext.refl w).alloc (.cells #[.int .i64 0, .int .i64 0] 23)).trans hx⟩
set_option maxRecDepth 100000 in
set_option maxHeartbeats 2000000 in
theorem pow1_pos_ok (m x n l a b : Int) (bn bx : Nat) (w : World) (n0 : ∀ ob, (w.alloc ob).cell? ⟨bn, 0, none⟩ = some (.int .i64 n)) (p0 : ∀ ob, (w.alloc ob).cell? ⟨bx, 0, none⟩ = some (.int .i64 m)) (p1 : ∀ ob, (w.alloc ob).cell? ⟨bx, 1, none⟩ = some (.int .i64 x)) (hn : n ≥ 0) (hl : IntKind.u64.wrap n = l) (HP : ∀ w, Calls Tryz.prog 77 #[.agg #[.int .i64 m, .int .i64 x], .int .u64 l] w fun e w' => e = .returned (.agg #[.int .i64 a, .int .i64 b]) ∧ Ext w w') : Calls Tryz.prog 76 #[.pointer (some ⟨bn, 0, none⟩), .pointer (some ⟨bx, 0, none⟩)] w fun e w' => e = .returned (.agg #[.int .i64 a, .int .i64 b]) ∧ Ext w w' := by
  go_enter Tryz.func76, Tryz.ntmps76
  go_wp2_with fail
  refine (HP _).mono ?_
  rintro e w1 ⟨rfl, hx⟩
  have c0 : w1.cell? ⟨w.heap.size, 0, none⟩ = some (.int .i64 0) := (hx.cell 0 (by simp)).trans (by simp [go_sem])
  have c1 : w1.cell? ⟨w.heap.size, 1, none⟩ = some (.int .i64 0) := (hx.cell 1 (by simp)).trans (by simp [go_sem])
  have f0 : ∀ j, w1.frozen? ⟨w.heap.size, j, none⟩ = false := fun j => (hx.froz j (by simp)).trans (by simp [go_sem])
  have X := Lib.hid (((Ext.refl w).alloc (.cells #[.int .i64 0, .int .i64 0] 23)).trans hx)
  clear hx n0 p0 p1
  go_wp2
  refine bodyPost_ret (v := .agg #[.int .i64 a, .int .i64 b]) ?_ rfl ⟨rfl, ?_⟩
  · simp [results, Tryz.results76, go_sem, c0, c1]
  · exact (X.out.setCell (by simp; try omega) _).setCell (by simp; try omega) _
set_option maxRecDepth 100000 in
set_option maxHeartbeats 2000000 in
theorem pow1_neg_none (m x n l : Int) (bn bx : Nat) (w : World) (n0 : ∀ ob, (w.alloc ob).cell? ⟨bn, 0, none⟩ = some (.int .i64 n)) (p0 : ∀ ob, (w.alloc ob).cell? ⟨bx, 0, none⟩ = some (.int .i64 m)) (p1 : ∀ ob, (w.alloc ob).cell? ⟨bx, 1, none⟩ = some (.int .i64 x)) (hn : ¬ n ≥ 0) (N1 : Int) (hl : IntKind.u64.wrap n = N1) (hl2 : IntKind.u64.wrap (-N1) = l) (HP : ∀ w, Calls Tryz.prog 77 #[.agg #[.int .i64 m, .int .i64 x], .int .u64 l] w fun e w' => e = RangePanic ∧ Ext w w') : Calls Tryz.prog 76 #[.pointer (some ⟨bn, 0, none⟩), .pointer (some ⟨bx, 0, none⟩)] w fun e w' => e = RangePanic ∧ Ext w w' := by
  go_enter Tryz.func76, Tryz.ntmps76
  go_wp2_with fail
  refine (HP _).mono ?_
  rintro e w1 ⟨rfl, hx⟩
  exact ⟨rfl, rfl, ((Ext.refl w).alloc (.cells #[.int .i64 0, .int .i64 0] 23)).trans hx⟩
set_option maxRecDepth 100000 in
set_option maxHeartbeats 2000000 in
theorem pow1_neg_zero (m x n l b : Int) (bn bx : Nat) (w : World) (n0 : ∀ ob, (w.alloc ob).cell? ⟨bn, 0, none⟩ = some (.int .i64 n)) (p0 : ∀ ob, (w.alloc ob).cell? ⟨bx, 0, none⟩ = some (.int .i64 m)) (p1 : ∀ ob, (w.alloc ob).cell? ⟨bx, 1, none⟩ = some (.int .i64 x)) (hn : ¬ n ≥ 0) (N1 : Int) (hl : IntKind.u64.wrap n = N1) (hl2 : IntKind.u64.wrap (-N1) = l) (HP : ∀ w, Calls Tryz.prog 77 #[.agg #[.int .i64 m, .int .i64 x], .int .u64 l] w fun e w' => e = .returned (.agg #[.int .i64 0, .int .i64 b]) ∧ Ext w w') : Calls Tryz.prog 76 #[.pointer (some ⟨bn, 0, none⟩), .pointer (some ⟨bx, 0, none⟩)] w fun e w' => e = RangePanic ∧ Ext w w' := by
  go_enter Tryz.func76, Tryz.ntmps76
  go_wp2_with fail
  refine (HP _).mono ?_
  rintro e w1 ⟨rfl, hx⟩
  have c0 : w1.cell? ⟨w.heap.size, 0, none⟩ = some (.int .i64 0) := (hx.cell 0 (by simp)).trans (by simp [go_sem])
  have c1 : w1.cell? ⟨w.heap.size, 1, none⟩ = some (.int .i64 0) := (hx.cell 1 (by simp)).trans (by simp [go_sem])
  have f0 : ∀ j, w1.frozen? ⟨w.heap.size, j, none⟩ = false := fun j => (hx.froz j (by simp)).trans (by simp [go_sem])
  have X := Lib.hid (((Ext.refl w).alloc (.cells #[.int .i64 0, .int .i64 0] 23)).trans hx)
  clear hx n0 p0 p1
  go_wp2
  exact ⟨rfl, rfl, by repeat (first | with_reducible exact X.out | with_reducible refine Ext.alloc ?_ _)⟩
set_option maxRecDepth 100000 in
set_option maxHeartbeats 2000000 in
theorem pow1_neg_rd (m x n l a b ex mn _rm _rx : Int) (bn bx : Nat) (w : World) (n0 : ∀ ob, (w.alloc ob).cell? ⟨bn, 0, none⟩ = some (.int .i64 n)) (p0 : ∀ ob, (w.alloc ob).cell? ⟨bx, 0, none⟩ = some (.int .i64 m)) (p1 : ∀ ob, (w.alloc ob).cell? ⟨bx, 1, none⟩ = some (.int .i64 x)) (ng mo : Bool) (hn : ¬ n ≥ 0) (N1 : Int) (hl : IntKind.u64.wrap n = N1) (hl2 : IntKind.u64.wrap (-N1) = l) (HP : ∀ w, Calls Tryz.prog 77 #[.agg #[.int .i64 m, .int .i64 x], .int .u64 l] w fun e w' => e = .returned (.agg #[.int .i64 a, .int .i64 b]) ∧ Ext w w') (a0 : (a == 0) = false) (_a0' : ¬ a = 0) (HQ : ∀ w, Calls Tryz.prog 69 #[.agg #[.int .i64 8388608, .int .i64 (-23)], .agg #[.int .i64 a, .int .i64 b]] w fun e w' => e = .returned (.agg #[.bool ng, .int .u64 mn, .int .i64 ex, .bool mo]) ∧ Ext w w') (HR : ∀ w, Calls Tryz.prog 53 #[.agg #[.bool ng, .int .u64 mn, .int .i64 ex, .bool mo]] w fun e w' => e = RangePanic ∧ Ext w w') : Calls Tryz.prog 76 #[.pointer (some ⟨bn, 0, none⟩), .pointer (some ⟨bx, 0, none⟩)] w fun e w' => e = RangePanic ∧ Ext w w' := by
  go_enter Tryz.func76, Tryz.ntmps76
  go_wp2_with fail
  refine (HP _).mono ?_
  rintro e w1 ⟨rfl, hx⟩
  have c0 : w1.cell? ⟨w.heap.size, 0, none⟩ = some (.int .i64 0) := (hx.cell 0 (by simp)).trans (by simp [go_sem])
  have c1 : w1.cell? ⟨w.heap.size, 1, none⟩ = some (.int .i64 0) := (hx.cell 1 (by simp)).trans (by simp [go_sem])
  have f0 : ∀ j, w1.frozen? ⟨w.heap.size, j, none⟩ = false := fun j => (hx.froz j (by simp)).trans (by simp [go_sem])
  have X := Lib.hid (((Ext.refl w).alloc (.cells #[.int .i64 0, .int .i64 0] 23)).trans hx)
  have sz : w.heap.size + 1 ≤ w1.heap.size := by simpa using hx.size
  clear hx n0 p0 p1
  go_upto_region 6 with (fail)
  have HS0 : P1T w w1.heap.size a b (w1.alloc (.cells #[.int .i64 a, .int .i64 b] 23)) := ⟨X.out.alloc _, ⟨by omega, by simp⟩, by simp [go_sem], by simp [go_sem], (((Ext.refl w1).alloc _).cell 0 (by omega)).trans c0, (((Ext.refl w1).alloc _).cell 1 (by omega)).trans c1, fun j => (((Ext.refl w1).alloc _).froz j (by omega)).trans (f0 j)⟩
  refine wp_region_S (P1T w w1.heap.size a b) 4 (by kernel_rfl) ?_
  have HS := HS0.later (Ext.refl _).drew
  clear HS0 c0 c1 f0 X
  refine GoS.take (i := 1) (v := ?_) rfl (by kernel_rfl) (by kernel_rfl) (by kernel_rfl) (by kernel_rfl) (fun _ _ _ h => h) (Or.inl ⟨by rfl, ?hy1⟩) HS ?_
  case hy1 => ((intro u' hT; have d0 := hT.p0; have d1 := hT.p1; go_simp); try with_reducible rfl)
  try simp only [List.getElem_toArray, List.getElem_cons_succ, List.getElem_cons_zero, Act.put, List.setIfInBounds_toArray, List.set_cons_zero, List.set_cons_succ]
  refine GoS.one (i := 0) (by kernel_rfl) rfl (fun K hK => ?_)
  go_simp
  (with_reducible refine (fromInt_one _).mono ?_)
  rintro e q2 ⟨rfl, hx2⟩
  have HS2 := HS.later hx2
  clear HS; have HS := HS2; clear HS2 hx2
  go_wp2_with fail
  refine hK.out _ _ HS (fun _ => ?_)
  clear hK K
  try simp only [List.getElem_toArray, List.getElem_cons_succ, List.getElem_cons_zero, Act.put, List.setIfInBounds_toArray, List.set_cons_zero, List.set_cons_succ]
  refine GoS.one (i := 2) (by kernel_rfl) rfl (fun K hK => ?_)
  go_simp
  (with_reducible refine (HQ _).mono ?_)
  rintro e q3 ⟨rfl, hx3⟩
  have HS2 := HS.later hx3
  clear HS; have HS := HS2; clear HS2 hx3
  go_wp2_with fail
  refine hK.out _ _ HS (fun _ => ?_)
  clear hK K
  try simp only [List.getElem_toArray, List.getElem_cons_succ, List.getElem_cons_zero, Act.put, List.setIfInBounds_toArray, List.set_cons_zero, List.set_cons_succ]
  refine GoS.one (i := 3) (by kernel_rfl) rfl (fun K hK => ?_)
  go_simp
  (with_reducible refine (HR _).mono ?_)
  rintro e q4 ⟨rfl, hx4⟩
  exact ⟨rfl, rfl, HS.e.trans hx4⟩
set_option maxRecDepth 100000 in
set_option maxHeartbeats 2000000 in
theorem pow1_neg_ok (m x n l a b ex mn rm rx : Int) (bn bx : Nat) (w : World) (n0 : ∀ ob, (w.alloc ob).cell? ⟨bn, 0, none⟩ = some (.int .i64 n)) (p0 : ∀ ob, (w.alloc ob).cell? ⟨bx, 0, none⟩ = some (.int .i64 m)) (p1 : ∀ ob, (w.alloc ob).cell? ⟨bx, 1, none⟩ = some (.int .i64 x)) (ng mo : Bool) (hn : ¬ n ≥ 0) (N1 : Int) (hl : IntKind.u64.wrap n = N1) (hl2 : IntKind.u64.wrap (-N1) = l) (HP : ∀ w, Calls Tryz.prog 77 #[.agg #[.int .i64 m, .int .i64 x], .int .u64 l] w fun e w' => e = .returned (.agg #[.int .i64 a, .int .i64 b]) ∧ Ext w w') (a0 : (a == 0) = false) (_a0' : ¬ a = 0) (HQ : ∀ w, Calls Tryz.prog 69 #[.agg #[.int .i64 8388608, .int .i64 (-23)], .agg #[.int .i64 a, .int .i64 b]] w fun e w' => e = .returned (.agg #[.bool ng, .int .u64 mn, .int .i64 ex, .bool mo]) ∧ Ext w w') (HR : ∀ w, Calls Tryz.prog 53 #[.agg #[.bool ng, .int .u64 mn, .int .i64 ex, .bool mo]] w fun e w' => e = .returned (.agg #[.int .i64 rm, .int .i64 rx]) ∧ Ext w w') : Calls Tryz.prog 76 #[.pointer (some ⟨bn, 0, none⟩), .pointer (some ⟨bx, 0, none⟩)] w fun e w' => e = .returned (.agg #[.int .i64 rm, .int .i64 rx]) ∧ Ext w w' := by
  go_enter Tryz.func76, Tryz.ntmps76
  go_wp2_with fail
  refine (HP _).mono ?_
  rintro e w1 ⟨rfl, hx⟩
  have c0 : w1.cell? ⟨w.heap.size, 0, none⟩ = some (.int .i64 0) := (hx.cell 0 (by simp)).trans (by simp [go_sem])
  have c1 : w1.cell? ⟨w.heap.size, 1, none⟩ = some (.int .i64 0) := (hx.cell 1 (by simp)).trans (by simp [go_sem])
  have f0 : ∀ j, w1.frozen? ⟨w.heap.size, j, none⟩ = false := fun j => (hx.froz j (by simp)).trans (by simp [go_sem])
  have X := Lib.hid (((Ext.refl w).alloc (.cells #[.int .i64 0, .int .i64 0] 23)).trans hx)
  have sz : w.heap.size + 1 ≤ w1.heap.size := by simpa using hx.size
  clear hx n0 p0 p1
  go_upto_region 6 with (fail)
  have HS0 : P1T w w1.heap.size a b (w1.alloc (.cells #[.int .i64 a, .int .i64 b] 23)) := ⟨X.out.alloc _, ⟨by omega, by simp⟩, by simp [go_sem], by simp [go_sem], (((Ext.refl w1).alloc _).cell 0 (by omega)).trans c0, (((Ext.refl w1).alloc _).cell 1 (by omega)).trans c1, fun j => (((Ext.refl w1).alloc _).froz j (by omega)).trans (f0 j)⟩
  refine wp_region_S (P1T w w1.heap.size a b) 4 (by kernel_rfl) ?_
  have HS := HS0.later (Ext.refl _).drew
  clear HS0 c0 c1 f0 X
  refine GoS.take (i := 1) (v := ?_) rfl (by kernel_rfl) (by kernel_rfl) (by kernel_rfl) (by kernel_rfl) (fun _ _ _ h => h) (Or.inl ⟨by rfl, ?hy1⟩) HS ?_
  case hy1 => ((intro u' hT; have d0 := hT.p0; have d1 := hT.p1; go_simp); try with_reducible rfl)
  try simp only [List.getElem_toArray, List.getElem_cons_succ, List.getElem_cons_zero, Act.put, List.setIfInBounds_toArray, List.set_cons_zero, List.set_cons_succ]
  refine GoS.one (i := 0) (by kernel_rfl) rfl (fun K hK => ?_)
  go_simp
  (with_reducible refine (fromInt_one _).mono ?_)
  rintro e q2 ⟨rfl, hx2⟩
  have HS2 := HS.later hx2
  clear HS; have HS := HS2; clear HS2 hx2
  go_wp2_with fail
  refine hK.out _ _ HS (fun _ => ?_)
  clear hK K
  try simp only [List.getElem_toArray, List.getElem_cons_succ, List.getElem_cons_zero, Act.put, List.setIfInBounds_toArray, List.set_cons_zero, List.set_cons_succ]
  refine GoS.one (i := 2) (by kernel_rfl) rfl (fun K hK => ?_)
  go_simp
  (with_reducible refine (HQ _).mono ?_)
  rintro e q3 ⟨rfl, hx3⟩
  have HS2 := HS.later hx3
  clear HS; have HS := HS2; clear HS2 hx3
  go_wp2_with fail
  refine hK.out _ _ HS (fun _ => ?_)
  clear hK K
  try simp only [List.getElem_toArray, List.getElem_cons_succ, List.getElem_cons_zero, Act.put, List.setIfInBounds_toArray, List.set_cons_zero, List.set_cons_succ]
  refine GoS.one (i := 3) (by kernel_rfl) rfl (fun K hK => ?_)
  go_simp
  (with_reducible refine (HR _).mono ?_)
  rintro e q4 ⟨rfl, hx4⟩
  have HS2 := HS.later hx4
  clear HS; have HS := HS2; clear HS2 hx4
  go_wp2_with fail
  refine hK.out _ _ HS (fun _ => ?_)
  clear hK K
  try simp only [List.getElem_toArray, List.getElem_cons_succ, List.getElem_cons_zero, Act.put, List.setIfInBounds_toArray, List.set_cons_zero, List.set_cons_succ]
  refine GoS.store (i := 4) (by kernel_rfl) rfl (by kernel_rfl) (fun K hK => ?_)
  have c0 := HS.c0
  have c1 := HS.c1
  have f0 := HS.f0
  go_simp
  refine hK.out _ _ ?_
  clear hK K
  try simp only [List.getElem_toArray, List.getElem_cons_succ, List.getElem_cons_zero, Act.put, List.setIfInBounds_toArray, List.set_cons_zero, List.set_cons_succ]
  refine GoS.done (by kernel_rfl) ?_
  have X := Lib.hid HS.e
  go_wp2
  refine bodyPost_ret (v := .agg #[.int .i64 rm, .int .i64 rx]) ?_ rfl ⟨rfl, ?_⟩
  · simp [results, Tryz.results76, go_sem, c0, c1]
  · exact (X.out.setCell (by simp; try omega) _).setCell (by simp; try omega) _
theorem pow1_any {m x n : Int} (h : Vd m x) (h1 : -9223372036854775808 ≤ n) (h2 : n ≤ 9223372036854775807) (bn bx : Nat) (w : World) (n0 : ∀ ob, (w.alloc ob).cell? ⟨bn, 0, none⟩ = some (.int .i64 n)) (p0 : ∀ ob, (w.alloc ob).cell? ⟨bx, 0, none⟩ = some (.int .i64 m)) (p1 : ∀ ob, (w.alloc ob).cell? ⟨bx, 1, none⟩ = some (.int .i64 x)) :
    Calls Tryz.prog 76 #[.pointer (some ⟨bn, 0, none⟩), .pointer (some ⟨bx, 0, none⟩)] w fun e w' => Ends (powR m x n) e ∧ Ext w w' := by
  unfold powR
  by_cases hn : 0 ≤ n
  · rw [if_pos hn]
    obtain ⟨N, rfl⟩ : ∃ N : Nat, n = N := ⟨n.toNat, by omega⟩
    rw [show (N : Int).toNat = N by omega]
    have hl : IntKind.u64.wrap (N : Int) = (N : Int) := IntWalk.u64_in _ ⟨by omega, by omega⟩
    have HP := power_any h N N (Nat.le_refl _) (by omega)
    cases e1 : powF m x N N with
    | none => rw [e1] at HP; exact pow1_pos_none m x N N bn bx w n0 p0 p1 hn hl HP
    | some p => rw [e1] at HP; exact pow1_pos_ok m x N N p.1 p.2 bn bx w n0 p0 p1 hn hl HP
  · rw [if_neg hn]
    obtain ⟨N, rfl⟩ : ∃ N : Nat, n = -(N : Int) := ⟨(-n).toNat, by omega⟩
    rw [show (- -(N : Int)).toNat = N by omega]
    have hl : IntKind.u64.wrap (-(N : Int)) = 18446744073709551616 - (N : Int) := by
      have e : IntKind.u64.wrap (-(N : Int)) = (-(N : Int)) % 18446744073709551616 := rfl
      rw [e]; omega
    have hl2 : IntKind.u64.wrap (-(18446744073709551616 - (N : Int))) = (N : Int) := by
      have e : IntKind.u64.wrap (-(18446744073709551616 - (N : Int))) = (-(18446744073709551616 - (N : Int))) % 18446744073709551616 := rfl
      rw [e]; omega
    have HP := power_any h N N (Nat.le_refl _) (by omega)
    have V := powF_vd h N N
    cases e1 : powF m x N N with
    | none => rw [e1] at HP; exact pow1_neg_none m x _ N bn bx w n0 p0 p1 hn _ hl hl2 HP
    | some p =>
      obtain ⟨a, b⟩ := p
      rw [e1] at HP
      show Calls Tryz.prog _ _ w fun e w' => Ends (if a = 0 then none else (quotV 8388608 (-23) a b).rd) e ∧ Ext w w'
      by_cases a0 : a = 0
      · subst a0
        rw [if_pos rfl]; exact pow1_neg_zero m x _ N b bn bx w n0 p0 p1 hn _ hl hl2 HP
      · rw [if_neg a0]
        obtain ⟨⟨c1, c2⟩, c3, c4⟩ := vd_bd (V _ e1)
        have HQ := quot_any 8388608 (-23) a b a0 (by omega) (by omega) c1 c2 (by omega) (by omega) c3 c4
        obtain ⟨o1, o2, o3⟩ := quot_ok 8388608 (-23) a b a0 (by omega) (by omega) c1 c2 (by omega) (by omega)
        have HR := rd_any (quotV 8388608 (-23) a b) o1 o2 o3
        cases e2 : (quotV 8388608 (-23) a b).rd with
        | none => rw [e2] at HR; exact pow1_neg_rd m x _ N a b _ _ 0 0 bn bx w n0 p0 p1 _ _ hn _ hl hl2 HP (by simpa using a0) a0 HQ HR
        | some r => rw [e2] at HR; exact pow1_neg_ok m x _ N a b _ _ r.1 r.2 bn bx w n0 p0 p1 _ _ hn _ hl hl2 HP (by simpa using a0) a0 HQ HR
theorem pow_ent (args : Array Value) (w : World) : (callFunc 76 args).run Tryz.prog w = .ok (.enter 76 args) w :=
  ent_any Tryz.func76 (by kernel_rfl) rfl args w
theorem pow_guarded {m x n : Int} (h : Vd m x) (h1 : -9223372036854775808 ≤ n) (h2 : n ≤ 9223372036854775807) (bn bx : Nat) (u : World) (l1 : bn < u.heap.size) (l2 : bx < u.heap.size)
    (n0 : u.cell? ⟨bn, 0, none⟩ = some (.int .i64 n)) (p0 : u.cell? ⟨bx, 0, none⟩ = some (.int .i64 m)) (p1 : u.cell? ⟨bx, 1, none⟩ = some (.int .i64 x)) :
    Calls Tryz.prog 70 #[.func (.func 76) #[] #[.pointer (some ⟨bn, 0, none⟩), .pointer (some ⟨bx, 0, none⟩)]] u fun e w' => e = .returned (.tuple #[.agg #[.int .i64 (okV (powR m x n)).1, .int .i64 (okV (powR m x n)).2], .int .i64 (okE (powR m x n))]) ∧ Ext u w' :=
  guarded_any 76 _ (powR m x n) u pow_ent fun v hv => pow1_any h h1 h2 bn bx v
    (fun ob => ((hv.alloc ob).cell 0 l1).trans n0) (fun ob => ((hv.alloc ob).cell 0 l2).trans p0) (fun ob => ((hv.alloc ob).cell 1 l2).trans p1)
set_option maxHeartbeats 1000000 in
theorem Pow_good {m x n : Int} (h : Vd m x) (h1 : -9223372036854775808 ≤ n) (h2 : n ≤ 9223372036854775807) (hc : (m == 0) = false ∨ ¬ n < 0) (w : World) :
    Calls Tryz.prog 39 #[.agg #[.int .i64 m, .int .i64 x], .int .i64 n] w fun e w' => e = .returned (.tuple #[.agg #[.int .i64 (okV (powR m x n)).1, .int .i64 (okV (powR m x n)).2], .int .i64 (okE (powR m x n))]) ∧ Ext w w' := by
  have A := Lib.hid (valid_any m x)
  rw [vd_iff.2 h] at A
  have GC := Lib.hid (fun bn bx u l1 l2 n0 p0 p1 => pow_guarded h h1 h2 bn bx u l1 l2 n0 p0 p1)
  clear h h1 h2
  generalize okV (powR m x n) = ov at *
  generalize okE (powR m x n) = re at *
  obtain ⟨rm, rx⟩ := ov
  simp only at *
  have hmf : ∀ (fn : Fn) (first cap : Array Value) (w : World), (Instr.makeFunc fn first cap).run Tryz.prog w = .ok (.func fn first cap) w := fun _ _ _ _ => rfl
  have hc2 : (m == 0) = false ∨ m = 0 ∧ ¬ n < 0 := by
    by_cases m0 : m = 0
    · rcases hc with hc | hc
      · rw [m0] at hc; simp at hc
      · exact .inr ⟨m0, hc⟩
    · exact .inl (by simpa using m0)
  clear hc
  rcases hc2 with hc | ⟨rfl, hc⟩
  · go_enter Tryz.func39, Tryz.ntmps39
    go_wp2_with fail
    refine (A.out _).mono ?_
    rintro e w1 ⟨rfl, hx⟩
    have X : Hid (Ext w w1) := Lib.hid (Ext.trans (by repeat (first | with_reducible exact Ext.refl _ | with_reducible refine Ext.alloc ?_ _)) hx)
    have sz : w.heap.size + 1 + 1 + 1 ≤ w1.heap.size := by simpa using hx.size
    have p0 : w1.cell? ⟨w.heap.size, 0, none⟩ = some (.int .i64 m) := (hx.cell 0 (by simp; try omega)).trans (by simp [go_sem])
    have p1 : w1.cell? ⟨w.heap.size, 1, none⟩ = some (.int .i64 x) := (hx.cell 1 (by simp; try omega)).trans (by simp [go_sem])
    have n0 : w1.cell? ⟨w.heap.size + 1, 0, none⟩ = some (.int .i64 n) := (hx.cell 0 (by simp; try omega)).trans (by simp [go_sem])
    have c0 : w1.cell? ⟨w.heap.size + 1 + 1, 0, none⟩ = some (.int .i64 0) := (hx.cell 0 (by simp; try omega)).trans (by simp [go_sem])
    have c1 : w1.cell? ⟨w.heap.size + 1 + 1, 1, none⟩ = some (.int .i64 0) := (hx.cell 1 (by simp; try omega)).trans (by simp [go_sem])
    have f0 : ∀ j, w1.frozen? ⟨w.heap.size + 1 + 1, j, none⟩ = false := fun j => (hx.froz j (by simp)).trans (by simp [go_sem])
    clear hx
    go_wp2_with fail
    refine (GC.out (w.heap.size + 1) w.heap.size w1 (by omega) (by omega) n0 p0 p1).mono ?_
    rintro e w2 ⟨rfl, hx⟩
    have X := Lib.hid (X.out.trans hx)
    have c0 := (hx.cell 0 (b := w.heap.size + 1 + 1) (by omega)).trans c0
    have c1 := (hx.cell 1 (b := w.heap.size + 1 + 1) (by omega)).trans c1
    have f0 : ∀ j, w2.frozen? ⟨w.heap.size + 1 + 1, j, none⟩ = false := fun j => (hx.froz j (by omega)).trans (f0 j)
    clear hx p0 p1 n0
    go_wp2
    refine bodyPost_ret (v := .tuple #[.agg #[.int .i64 rm, .int .i64 rx], .int .i64 re]) ?_ rfl ⟨rfl, ?_⟩
    · simp [results, Tryz.results39, go_sem, c0, c1]
    · exact (X.out.setCell (by simp; try omega) _).setCell (by simp; try omega) _
  · go_enter Tryz.func39, Tryz.ntmps39
    go_wp2_with fail
    refine (A.out _).mono ?_
    rintro e w1 ⟨rfl, hx⟩
    have X : Hid (Ext w w1) := Lib.hid (Ext.trans (by repeat (first | with_reducible exact Ext.refl _ | with_reducible refine Ext.alloc ?_ _)) hx)
    have sz : w.heap.size + 1 + 1 + 1 ≤ w1.heap.size := by simpa using hx.size
    have p0 : w1.cell? ⟨w.heap.size, 0, none⟩ = some (.int .i64 0) := (hx.cell 0 (by simp; try omega)).trans (by simp [go_sem])
    have p1 : w1.cell? ⟨w.heap.size, 1, none⟩ = some (.int .i64 x) := (hx.cell 1 (by simp; try omega)).trans (by simp [go_sem])
    have n0 : w1.cell? ⟨w.heap.size + 1, 0, none⟩ = some (.int .i64 n) := (hx.cell 0 (by simp; try omega)).trans (by simp [go_sem])
    have c0 : w1.cell? ⟨w.heap.size + 1 + 1, 0, none⟩ = some (.int .i64 0) := (hx.cell 0 (by simp; try omega)).trans (by simp [go_sem])
    have c1 : w1.cell? ⟨w.heap.size + 1 + 1, 1, none⟩ = some (.int .i64 0) := (hx.cell 1 (by simp; try omega)).trans (by simp [go_sem])
    have f0 : ∀ j, w1.frozen? ⟨w.heap.size + 1 + 1, j, none⟩ = false := fun j => (hx.froz j (by simp)).trans (by simp [go_sem])
    clear hx
    go_wp2_with fail
    refine (GC.out (w.heap.size + 1) w.heap.size w1 (by omega) (by omega) n0 p0 p1).mono ?_
    rintro e w2 ⟨rfl, hx⟩
    have X := Lib.hid (X.out.trans hx)
    have c0 := (hx.cell 0 (b := w.heap.size + 1 + 1) (by omega)).trans c0
    have c1 := (hx.cell 1 (b := w.heap.size + 1 + 1) (by omega)).trans c1
    have f0 : ∀ j, w2.frozen? ⟨w.heap.size + 1 + 1, j, none⟩ = false := fun j => (hx.froz j (by omega)).trans (f0 j)
    clear hx p0 p1 n0
    go_wp2
    refine bodyPost_ret (v := .tuple #[.agg #[.int .i64 rm, .int .i64 rx], .int .i64 re]) ?_ rfl ⟨rfl, ?_⟩
    · simp [results, Tryz.results39, go_sem, c0, c1]
    · exact (X.out.setCell (by simp; try omega) _).setCell (by simp; try omega) _
end Go.Proofs.YthmndafjogndaaaGreatDoor
