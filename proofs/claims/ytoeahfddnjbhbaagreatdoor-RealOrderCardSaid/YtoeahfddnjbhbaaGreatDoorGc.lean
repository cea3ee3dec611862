/- Layer 2: the examples that stand in every statement. -/
/- Layer 2: sanity returns true. -/
/- Layer 2: the order of the reals. -/
/- The walk of RealOrder. -/
import Derived.Test.YtoeahfddnjbhbaaGreatDoorRw
import Derived.Test.YtoeahfddnjbhbaaGreatDoorNzn
import Derived.Test.YtoeahfddnjbhbaaGreatDoorNzo
import Derived.Test.YtoeahfddnjbhbaaGreatDoorNzj
import Derived.Test.YtoeahfddnjbhbaaGreatDoorNzk
import Derived.Test.YtoeahfddnjbhbaaGreatDoorGb
import Derived.Test.YtoeahfddnjbhbaaGreatDoorGd
namespace Go.Proofs.YtoeahfddnjbhbaaGreatDoor
open Go.RowKit

/-- A real lies in a block. -/
structure Rc (u : World) (b : Nat) (m x : Int) : Prop where
  c0 : u.cell? ⟨b, 0, none⟩ = some (.int .i64 m)
  c1 : u.cell? ⟨b, 1, none⟩ = some (.int .i64 x)
theorem Rc.later {u v : World} {b : Nat} {m x : Int} (h : Rc u b m x) (hx : Ext u v) : Rc v b m x :=
  ⟨(hx.cell 0 (World.block_lt_of_cell? u _ h.c0)).trans h.c0, (hx.cell 1 (World.block_lt_of_cell? u _ h.c0)).trans h.c1⟩
theorem rc_new (u : World) (m x : Int) (T : TypeId) : Rc (u.alloc (.cells #[.int .i64 m, .int .i64 x] T)) u.heap.size m x := ⟨by simp [go_sem], by simp [go_sem]⟩
/-- The tables that the row lists. -/
structure Tb (w : World) : Prop where
  r : PowR w
  p : Pow10 w
theorem Tb.later {w w' : World} (h : Tb w) (hx : Ext w w') : Tb w' := ⟨h.r.later hx, h.p.later hx⟩

theorem two_any (n : Int) (h1 : -1000 ≤ n) (h2 : n ≤ 1000) (w : World) : Calls Tryz.prog 62 #[.int .i64 n] w fun e w' => e = .returned (.agg #[.int .i64 8388608, .int .i64 (n - 23)]) ∧ Ext w w' := by
  have hw : IntKind.i64.wrap (n - 23) = n - 23 := IntWalk.i64_in _ ⟨by omega, by omega⟩
  go_enter Tryz.func62, Tryz.ntmps62
  go_wp2
  refine bodyPost_ret (v := .agg #[.int .i64 8388608, .int .i64 (n - 23)]) ?_ rfl ⟨rfl, ?_⟩
  · simp [results, Tryz.results62, go_sem]
  · repeat (first | with_reducible exact Ext.refl _ | with_reducible refine Ext.alloc ?_ _ | with_reducible refine Ext.setCell ?_ (by simp) _)
theorem two_at (n k : Int) (h1 : -1000 ≤ n) (h2 : n ≤ 1000) (hk : n - 23 = k) (w : World) : Calls Tryz.prog 62 #[.int .i64 n] w fun e w' => e = .returned (.agg #[.int .i64 8388608, .int .i64 k]) ∧ Ext w w' := by
  subst hk; exact two_any n h1 h2 w
theorem is_true (m x : Int) (w : World) : Calls Tryz.prog 18 #[.agg #[.int .i64 m, .int .i64 x], .int .i64 0, .agg #[.int .i64 m, .int .i64 x]] w fun e w' => e = .returned (.bool true) ∧ Ext w w' := by
  have eqR := eqReal
  have e0 : (m == m && x == x) = true := by simp
  go_enter Tryz.func18, Tryz.ntmps18
  go_wp2
  go_ret
  exact ⟨rfl, by repeat (first | with_reducible exact Ext.refl _ | with_reducible refine Ext.alloc ?_ _)⟩
theorem at_law (i : Int) (h1 : -9223372036854775808 ≤ i) (h2 : i ≤ 9223372036854775807) (j : Int) (hj : i.tmod 2533359616 = j) (b1 : -2533359615 ≤ j) (b2 : j ≤ 2533359615) (w : World) :
    Calls Tryz.prog 56 #[.int .i64 i] w fun e w' => e = .returned (.agg #[.int .i64 (atV j).1, .int .i64 (atV j).2]) ∧ Ext w w' := by
  have A := Lib.hid (At_in j (by omega) (by omega))
  generalize atV j = p at *
  go_enter Tryz.func56, Tryz.ntmps56
  go_wp2_with fail
  refine (A.out _).mono ?_
  rintro e w1 ⟨rfl, hx⟩
  have c0 : w1.cell? ⟨w.heap.size, 0, none⟩ = some (.int .i64 0) := (hx.cell 0 (by simp)).trans (by simp [go_sem])
  have c1 : w1.cell? ⟨w.heap.size, 1, none⟩ = some (.int .i64 0) := (hx.cell 1 (by simp)).trans (by simp [go_sem])
  have f0 : ∀ j, w1.frozen? ⟨w.heap.size, j, none⟩ = false := fun j => (hx.froz j (by simp)).trans (by simp [go_sem])
  have sz := hx.size
  simp at sz
  have X := Lib.hid (((Ext.refl w).alloc (.cells #[.int .i64 0, .int .i64 0] 23)).trans hx)
  clear hx
  have ne : w.heap.size ≠ w1.heap.size := by omega
  have d0 : ∀ ob, (w1.alloc ob).cell? ⟨w.heap.size, 0, none⟩ = some (.int .i64 0) := fun ob => (((Ext.refl w1).alloc ob).cell 0 (by omega)).trans c0
  have d1 : ∀ ob, (w1.alloc ob).cell? ⟨w.heap.size, 1, none⟩ = some (.int .i64 0) := fun ob => (((Ext.refl w1).alloc ob).cell 1 (by omega)).trans c1
  have g0 : ∀ ob j, (w1.alloc ob).frozen? ⟨w.heap.size, j, none⟩ = false := fun ob j => (((Ext.refl w1).alloc ob).froz j (by omega)).trans (f0 j)
  go_wp2
  refine bodyPost_ret (v := .agg #[.int .i64 p.1, .int .i64 p.2]) ?_ rfl ⟨rfl, ?_⟩
  · simp [results, Tryz.results56, go_sem, d0, d1]
  · refine Ext.setCell (Ext.setCell (X.out.alloc _) (Nat.le_refl _) _) (Nat.le_refl _) _

end Go.Proofs.YtoeahfddnjbhbaaGreatDoor

namespace Go.Proofs.YtoeahfddnjbhbaaGreatDoor
open Go.RowKit

theorem s_add (w : World) : Calls Tryz.prog 35 #[.agg #[.int .i64 8388608, .int .i64 (-23)], .agg #[.int .i64 8388608, .int .i64 (-47)]] w fun e w' => e = .returned (.tuple #[.agg #[.int .i64 8388608, .int .i64 (-23)], .int .i64 0]) ∧ Ext w w' := by
  have h := add_real 8388608 (-23) 8388608 (-47) w
  rw [show combV 8388608 (-23) 8388608 (-47) (sumV 8388608 (-23) 8388608 (-47)) = ((8388608, -23), 0) by decide +kernel] at h
  exact h
theorem s_div (w : World) : Calls Tryz.prog 41 #[.agg #[.int .i64 8388608, .int .i64 (-23)], .agg #[.int .i64 12582912, .int .i64 (-22)]] w fun e w' => e = .returned (.tuple #[.agg #[.int .i64 11184811, .int .i64 (-25)], .int .i64 0]) ∧ Ext w w' := by
  have h := div_real 8388608 (-23) 12582912 (-22) w
  rw [show divV 8388608 (-23) 12582912 (-22) = ((11184811, -25), 0) by decide +kernel] at h
  exact h
theorem s_parse (w : World) (ht : PowR w) : Calls Tryz.prog 52 #[.string ⟨#[48, 46, 49]⟩] w fun e w' => e = .returned (.tuple #[.agg #[.int .i64 13421773, .int .i64 (-27)], .int .i64 0]) ∧ Ext w w' := by
  have h := parse_any [48, 46, 49] (by simp) w ht
  rw [show rparseV [48, 46, 49] = (13421773, -27) by decide +kernel, show rparseE [48, 46, 49] = 0 by decide +kernel] at h
  exact h
theorem s_parse2 (w : World) (ht : PowR w) : Calls Tryz.prog 52 #[.string ⟨#[49, 101, 54, 48]⟩] w fun e w' => e = .returned (.tuple #[.agg #[.int .i64 0, .int .i64 0], .int .i64 3]) ∧ Ext w w' := by
  have h := parse_any [49, 101, 54, 48] (by simp) w ht
  rw [show rparseV [49, 101, 54, 48] = (0, 0) by decide +kernel, show rparseE [49, 101, 54, 48] = 3 by decide +kernel] at h
  exact h
theorem s_print (w : World) (ht : Pow10 w) : Calls Tryz.prog 54 #[.agg #[.int .i64 11184811, .int .i64 (-25)]] w fun e w' => e = .returned (.tuple #[.string ⟨#[48, 46, 51, 51, 51, 51, 51, 51, 51, 52]⟩, .int .i64 0]) ∧ Ext w w' := by
  have h := print_any 11184811 (-25) (by decide +kernel) (by decide) (by decide +kernel) w ht
  rw [show printV 11184811 (-25) = [48, 46, 51, 51, 51, 51, 51, 51, 51, 52] by decide +kernel] at h
  exact h
theorem s_print2 (w : World) (ht : Pow10 w) : Calls Tryz.prog 54 #[.agg #[.int .i64 1, .int .i64 (-150)]] w fun e w' => e = .returned (.tuple #[.string ⟨#[55, 46, 48, 101, 45, 52, 54]⟩, .int .i64 0]) ∧ Ext w w' := by
  have h := print_any 1 (-150) (by decide +kernel) (by decide) (by decide +kernel) w ht
  rw [show printV 1 (-150) = [55, 46, 48, 101, 45, 52, 54] by decide +kernel] at h
  exact h
theorem s_entier (w : World) : Calls Tryz.prog 48 #[.agg #[.int .i64 (-12582912), .int .i64 (-23)]] w fun e w' => e = .returned (.tuple #[.int .i64 (-2), .int .i64 0]) ∧ Ext w w' := by
  have h := entier_any (-12582912) (-23) w
  rw [show wholeR (-12582912) (-23) 0 = (-2, 0) by decide +kernel] at h
  exact h
theorem s_round (w : World) : Calls Tryz.prog 49 #[.agg #[.int .i64 10485760, .int .i64 (-22)]] w fun e w' => e = .returned (.tuple #[.int .i64 3, .int .i64 0]) ∧ Ext w w' := by
  have h := roundR_any 10485760 (-22) w
  rw [show wholeR 10485760 (-22) 1 = (3, 0) by decide +kernel] at h
  exact h
theorem s_fromInt (w : World) : Calls Tryz.prog 20 #[.int .i64 16777217] w fun e w' => e = .returned (.agg #[.int .i64 8388608, .int .i64 1]) ∧ Ext w w' := by
  refine (fromInt_any 16777217 (by omega) (by omega) w).mono fun e w' ⟨h, hx⟩ => ⟨?_, hx⟩
  rw [show (exV 16777217 0).rd = some (8388608, 1) by decide +kernel] at h
  exact h
/-- The three reals that sanity keeps. -/
structure S3 (w : World) (b1 b2 b3 : Nat) (u : World) : Prop where
  r1 : Rc u b1 8388608 (-23)
  r2 : Rc u b2 11184811 (-25)
  r3 : Rc u b3 13421773 (-27)
  x : Ext w u
theorem S3.later {w : World} {b1 b2 b3 : Nat} {u v : World} (h : S3 w b1 b2 b3 u) (hx : Ext u v) : S3 w b1 b2 b3 v := ⟨h.r1.later hx, h.r2.later hx, h.r3.later hx, h.x.trans hx⟩
theorem S3.drew {w : World} {b1 b2 b3 : Nat} {u : World} (h : S3 w b1 b2 b3 u) : S3 w b1 b2 b3 u.drew := h.later ((Ext.refl u).drew)
set_option maxRecDepth 100000 in
set_option maxHeartbeats 8000000 in
theorem sanity_any (w : World) (ht : Tb w) : Calls Tryz.prog 30 #[] w fun e w' => e = .returned (.bool true) ∧ Ext w w' := by
  have HT := Lib.hid ht
  clear ht
  have eqR := eqReal
  go_enter Tryz.func30, Tryz.ntmps30
  go_wp2_with fail
  refine (two_at 0 (-23) (by omega) (by omega) (by omega) _).mono ?_
  rintro e w1 ⟨rfl, hx⟩
  have X1 : Hid (Ext w w1) := Lib.hid (hx)
  clear hx
  have X := X1; clear X1
  go_wp2_with fail
  refine (two_at (-24) (-47) (by omega) (by omega) (by omega) _).mono ?_
  rintro e w2 ⟨rfl, hx⟩
  have X2 : Hid (Ext w w2) := Lib.hid (X.out.trans hx)
  clear hx
  clear X
  have X := X2; clear X2
  go_wp2_with fail
  refine (s_add _).mono ?_
  rintro e w3 ⟨rfl, hx⟩
  have X3 : Hid (Ext w w3) := Lib.hid (X.out.trans hx)
  clear hx
  clear X
  have X := X3; clear X3
  go_wp2_with fail
  refine (two_at 0 (-23) (by omega) (by omega) (by omega) _).mono ?_
  rintro e w4 ⟨rfl, hx⟩
  have R4 : Rc w4 w3.heap.size 8388608 (-23) := (rc_new w3 8388608 (-23) 23).later hx
  have X4 : Hid (Ext w w4) := Lib.hid ((X.out.alloc _).trans hx)
  clear hx
  clear X
  have X := X4; clear X4
  have H4_0 := Lib.hid R4; clear R4
  go_wp2_with fail
  refine (s_div _).mono ?_
  rintro e w5 ⟨rfl, hx⟩
  have X5 : Hid (Ext w w5) := Lib.hid (X.out.trans hx)
  have Q5_0 : Rc w5 w3.heap.size 8388608 (-23) := H4_0.out.later hx
  clear hx
  clear X
  have X := X5; clear X5
  have H5_0 := Lib.hid Q5_0; clear Q5_0
  go_wp2_with fail
  refine (s_parse _ (HT.out.r.later (X.out.alloc _))).mono ?_
  rintro e w6 ⟨rfl, hx⟩
  have R6 : Rc w6 w5.heap.size 11184811 (-25) := (rc_new w5 11184811 (-25) 23).later hx
  have X6 : Hid (Ext w w6) := Lib.hid ((X.out.alloc _).trans hx)
  have Q6_0 : Rc w6 w3.heap.size 8388608 (-23) := ((H5_0.out.later ((Ext.refl _).alloc _))).later hx
  clear hx
  clear X
  have X := X6; clear X6
  have H6_0 := Lib.hid Q6_0; clear Q6_0
  have H6_1 := Lib.hid R6; clear R6
  have g0 : ∀ ob, (w6.alloc ob).cell? ⟨w5.heap.size, 0, none⟩ = some (.int .i64 11184811) := fun ob => (H6_1.out.later ((Ext.refl _).alloc ob)).c0
  have g1 : ∀ ob, (w6.alloc ob).cell? ⟨w5.heap.size, 1, none⟩ = some (.int .i64 (-25)) := fun ob => (H6_1.out.later ((Ext.refl _).alloc ob)).c1
  go_wp2_with fail
  refine (s_print _ (HT.out.p.later (X.out.alloc _))).mono ?_
  rintro e w7 ⟨rfl, hx⟩
  have R7 : Rc w7 w6.heap.size 13421773 (-27) := (rc_new w6 13421773 (-27) 23).later hx
  have X7 : Hid (Ext w w7) := Lib.hid ((X.out.alloc _).trans hx)
  have Q7_0 : Rc w7 w3.heap.size 8388608 (-23) := ((H6_0.out.later ((Ext.refl _).alloc _))).later hx
  have Q7_1 : Rc w7 w5.heap.size 11184811 (-25) := ((H6_1.out.later ((Ext.refl _).alloc _))).later hx
  clear hx
  clear X
  have X := X7; clear X7
  have H7_0 := Lib.hid Q7_0; clear Q7_0
  have H7_1 := Lib.hid Q7_1; clear Q7_1
  have H7_2 := Lib.hid R7; clear R7
  clear g0 g1
  go_upto_region 5 with (fail)
  have HS0 : (S3 w w3.heap.size w5.heap.size w6.heap.size) w7 := ⟨H7_0.out, H7_1.out, H7_2.out, X.out⟩
  refine wp_region_S (S3 w w3.heap.size w5.heap.size w6.heap.size) 26 (by kernel_rfl) ?_
  have HS := HS0.drew
  clear HS0 X H7_0 H7_1 H7_2
  refine GoS.take (i := 0) (v := ?_) rfl (by kernel_rfl) (by kernel_rfl) (by kernel_rfl) (by kernel_rfl) (fun _ _ _ h => h) (Or.inl ⟨by rfl, ?hy1⟩) HS ?_
  case hy1 => ((intro u' hT; have c0 := hT.r1.c0; have c1 := hT.r1.c1; go_simp); try with_reducible rfl)
  try simp only [List.getElem_toArray, List.getElem_cons_succ, List.getElem_cons_zero, Act.put, List.setIfInBounds_toArray, List.set_cons_zero, List.set_cons_succ]
  refine GoS.pure (i := 1) (v := ?_) rfl (by kernel_rfl) (by kernel_rfl) (by kernel_rfl) (by kernel_rfl) (fun _ _ _ h => h) (Or.inl ⟨by rfl, ?hy2⟩) (fun _ => HS) ?_
  case hy2 => ((intro u' hT; go_simp); try with_reducible rfl)
  try simp only [List.getElem_toArray, List.getElem_cons_succ, List.getElem_cons_zero, Act.put, List.setIfInBounds_toArray, List.set_cons_zero, List.set_cons_succ]
  refine GoS.one (i := 2) (by kernel_rfl) rfl (fun K hK => ?_)
  go_simp
  (with_reducible refine (two_at 0 (-23) (by omega) (by omega) (by omega) _).mono ?_)
  rintro e q3 ⟨rfl, hx3⟩
  have HS2 := HS.later hx3
  clear HS; have HS := HS2; clear HS2 hx3
  go_wp2_with fail
  refine hK.out _ _ HS (fun _ => ?_)
  clear hK K
  try simp only [List.getElem_toArray, List.getElem_cons_succ, List.getElem_cons_zero, Act.put, List.setIfInBounds_toArray, List.set_cons_zero, List.set_cons_succ]
  refine GoS.one (i := 3) (by kernel_rfl) rfl (fun K hK => ?_)
  go_simp
  (with_reducible refine (is_true 8388608 (-23) _).mono ?_)
  rintro e q4 ⟨rfl, hx4⟩
  have HS2 := HS.later hx4
  clear HS; have HS := HS2; clear HS2 hx4
  go_wp2_with fail
  refine hK.out _ _ HS (fun _ => ?_)
  clear hK K
  try simp only [List.getElem_toArray, List.getElem_cons_succ, List.getElem_cons_zero, Act.put, List.setIfInBounds_toArray, List.set_cons_zero, List.set_cons_succ]
  refine GoS.pure (i := 4) (v := ?_) rfl (by kernel_rfl) (by kernel_rfl) (by kernel_rfl) (by kernel_rfl) (fun _ _ _ h => h) (Or.inl ⟨by rfl, ?hy5⟩) (fun _ => HS) ?_
  case hy5 => ((intro u' hT; go_simp); try with_reducible rfl)
  try simp only [List.getElem_toArray, List.getElem_cons_succ, List.getElem_cons_zero, Act.put, List.setIfInBounds_toArray, List.set_cons_zero, List.set_cons_succ]
  refine GoS.pure (i := 5) (v := ?_) rfl (by kernel_rfl) (by kernel_rfl) (by kernel_rfl) (by kernel_rfl) (fun _ _ _ h => h) (Or.inl ⟨by rfl, ?hy6⟩) (fun _ => HS) ?_
  case hy6 => ((intro u' hT; go_simp); try with_reducible rfl)
  try simp only [List.getElem_toArray, List.getElem_cons_succ, List.getElem_cons_zero, Act.put, List.setIfInBounds_toArray, List.set_cons_zero, List.set_cons_succ]
  refine GoS.take (i := 6) (v := ?_) rfl (by kernel_rfl) (by kernel_rfl) (by kernel_rfl) (by kernel_rfl) (fun _ _ _ h => h) (Or.inl ⟨by rfl, ?hy7⟩) HS ?_
  case hy7 => ((intro u' hT; have c0 := hT.r2.c0; have c1 := hT.r2.c1; go_simp); try with_reducible rfl)
  try simp only [List.getElem_toArray, List.getElem_cons_succ, List.getElem_cons_zero, Act.put, List.setIfInBounds_toArray, List.set_cons_zero, List.set_cons_succ]
  refine GoS.pure (i := 7) (v := ?_) rfl (by kernel_rfl) (by kernel_rfl) (by kernel_rfl) (by kernel_rfl) (fun _ _ _ h => h) (Or.inl ⟨by rfl, ?hy8⟩) (fun _ => HS) ?_
  case hy8 => ((intro u' hT; go_simp); try with_reducible rfl)
  try simp only [List.getElem_toArray, List.getElem_cons_succ, List.getElem_cons_zero, Act.put, List.setIfInBounds_toArray, List.set_cons_zero, List.set_cons_succ]
  refine GoS.pure (i := 8) (v := ?_) rfl (by kernel_rfl) (by kernel_rfl) (by kernel_rfl) (by kernel_rfl) (fun _ _ _ h => h) (Or.inl ⟨by rfl, ?hy9⟩) (fun _ => HS) ?_
  case hy9 => ((intro u' hT; go_simp); try with_reducible rfl)
  try simp only [List.getElem_toArray, List.getElem_cons_succ, List.getElem_cons_zero, Act.put, List.setIfInBounds_toArray, List.set_cons_zero, List.set_cons_succ]
  refine GoS.one (i := 9) (by kernel_rfl) rfl (fun K hK => ?_)
  go_simp
  (with_reducible refine (is_true 11184811 (-25) _).mono ?_)
  rintro e q10 ⟨rfl, hx10⟩
  have HS2 := HS.later hx10
  clear HS; have HS := HS2; clear HS2 hx10
  go_wp2_with fail
  refine hK.out _ _ HS (fun _ => ?_)
  clear hK K
  try simp only [List.getElem_toArray, List.getElem_cons_succ, List.getElem_cons_zero, Act.put, List.setIfInBounds_toArray, List.set_cons_zero, List.set_cons_succ]
  refine GoS.pure (i := 10) (v := ?_) rfl (by kernel_rfl) (by kernel_rfl) (by kernel_rfl) (by kernel_rfl) (fun _ _ _ h => h) (Or.inl ⟨by rfl, ?hy11⟩) (fun _ => HS) ?_
  case hy11 => ((intro u' hT; go_simp); try with_reducible rfl)
  try simp only [List.getElem_toArray, List.getElem_cons_succ, List.getElem_cons_zero, Act.put, List.setIfInBounds_toArray, List.set_cons_zero, List.set_cons_succ]
  refine GoS.pure (i := 11) (v := ?_) rfl (by kernel_rfl) (by kernel_rfl) (by kernel_rfl) (by kernel_rfl) (fun _ _ _ h => h) (Or.inl ⟨by rfl, ?hy12⟩) (fun _ => HS) ?_
  case hy12 => ((intro u' hT; go_simp); try with_reducible rfl)
  try simp only [List.getElem_toArray, List.getElem_cons_succ, List.getElem_cons_zero, Act.put, List.setIfInBounds_toArray, List.set_cons_zero, List.set_cons_succ]
  refine GoS.pure (i := 12) (v := ?_) rfl (by kernel_rfl) (by kernel_rfl) (by kernel_rfl) (by kernel_rfl) (fun _ _ _ h => h) (Or.inl ⟨by rfl, ?hy13⟩) (fun _ => HS) ?_
  case hy13 => ((intro u' hT; go_simp); try with_reducible rfl)
  try simp only [List.getElem_toArray, List.getElem_cons_succ, List.getElem_cons_zero, Act.put, List.setIfInBounds_toArray, List.set_cons_zero, List.set_cons_succ]
  refine GoS.take (i := 13) (v := ?_) rfl (by kernel_rfl) (by kernel_rfl) (by kernel_rfl) (by kernel_rfl) (fun _ _ _ h => h) (Or.inl ⟨by rfl, ?hy14⟩) HS ?_
  case hy14 => ((intro u' hT; have c0 := hT.r3.c0; have c1 := hT.r3.c1; go_simp); try with_reducible rfl)
  try simp only [List.getElem_toArray, List.getElem_cons_succ, List.getElem_cons_zero, Act.put, List.setIfInBounds_toArray, List.set_cons_zero, List.set_cons_succ]
  refine GoS.pure (i := 14) (v := ?_) rfl (by kernel_rfl) (by kernel_rfl) (by kernel_rfl) (by kernel_rfl) (fun _ _ _ h => h) (Or.inl ⟨by rfl, ?hy15⟩) (fun _ => HS) ?_
  case hy15 => ((intro u' hT; go_simp); try with_reducible rfl)
  try simp only [List.getElem_toArray, List.getElem_cons_succ, List.getElem_cons_zero, Act.put, List.setIfInBounds_toArray, List.set_cons_zero, List.set_cons_succ]
  refine GoS.pure (i := 15) (v := ?_) rfl (by kernel_rfl) (by kernel_rfl) (by kernel_rfl) (by kernel_rfl) (fun _ _ _ h => h) (Or.inl ⟨by rfl, ?hy16⟩) (fun _ => HS) ?_
  case hy16 => ((intro u' hT; go_simp); try with_reducible rfl)
  try simp only [List.getElem_toArray, List.getElem_cons_succ, List.getElem_cons_zero, Act.put, List.setIfInBounds_toArray, List.set_cons_zero, List.set_cons_succ]
  refine GoS.one (i := 16) (by kernel_rfl) rfl (fun K hK => ?_)
  go_simp
  (with_reducible refine (is_true 13421773 (-27) _).mono ?_)
  rintro e q17 ⟨rfl, hx17⟩
  have HS2 := HS.later hx17
  clear HS; have HS := HS2; clear HS2 hx17
  go_wp2_with fail
  refine hK.out _ _ HS (fun _ => ?_)
  clear hK K
  try simp only [List.getElem_toArray, List.getElem_cons_succ, List.getElem_cons_zero, Act.put, List.setIfInBounds_toArray, List.set_cons_zero, List.set_cons_succ]
  refine GoS.pure (i := 17) (v := ?_) rfl (by kernel_rfl) (by kernel_rfl) (by kernel_rfl) (by kernel_rfl) (fun _ _ _ h => h) (Or.inl ⟨by rfl, ?hy18⟩) (fun _ => HS) ?_
  case hy18 => ((intro u' hT; go_simp); try with_reducible rfl)
  try simp only [List.getElem_toArray, List.getElem_cons_succ, List.getElem_cons_zero, Act.put, List.setIfInBounds_toArray, List.set_cons_zero, List.set_cons_succ]
  refine GoS.pure (i := 18) (v := ?_) rfl (by kernel_rfl) (by kernel_rfl) (by kernel_rfl) (by kernel_rfl) (fun _ _ _ h => h) (Or.inl ⟨by rfl, ?hy19⟩) (fun _ => HS) ?_
  case hy19 => ((intro u' hT; go_simp); try with_reducible rfl)
  try simp only [List.getElem_toArray, List.getElem_cons_succ, List.getElem_cons_zero, Act.put, List.setIfInBounds_toArray, List.set_cons_zero, List.set_cons_succ]
  refine GoS.pure (i := 19) (v := ?_) rfl (by kernel_rfl) (by kernel_rfl) (by kernel_rfl) (by kernel_rfl) (fun _ _ _ h => h) (Or.inl ⟨by rfl, ?hy20⟩) (fun _ => HS) ?_
  case hy20 => ((intro u' hT; go_simp); try with_reducible rfl)
  try simp only [List.getElem_toArray, List.getElem_cons_succ, List.getElem_cons_zero, Act.put, List.setIfInBounds_toArray, List.set_cons_zero, List.set_cons_succ]
  refine GoS.pure (i := 20) (v := ?_) rfl (by kernel_rfl) (by kernel_rfl) (by kernel_rfl) (by kernel_rfl) (fun _ _ _ h => h) (Or.inl ⟨by rfl, ?hy21⟩) (fun _ => HS) ?_
  case hy21 => ((intro u' hT; go_simp); try with_reducible rfl)
  try simp only [List.getElem_toArray, List.getElem_cons_succ, List.getElem_cons_zero, Act.put, List.setIfInBounds_toArray, List.set_cons_zero, List.set_cons_succ]
  refine GoS.pure (i := 21) (v := ?_) rfl (by kernel_rfl) (by kernel_rfl) (by kernel_rfl) (by kernel_rfl) (fun _ _ _ h => h) (Or.inl ⟨by rfl, ?hy22⟩) (fun _ => HS) ?_
  case hy22 => ((intro u' hT; go_simp); try with_reducible rfl)
  try simp only [List.getElem_toArray, List.getElem_cons_succ, List.getElem_cons_zero, Act.put, List.setIfInBounds_toArray, List.set_cons_zero, List.set_cons_succ]
  refine GoS.pure (i := 22) (v := ?_) rfl (by kernel_rfl) (by kernel_rfl) (by kernel_rfl) (by kernel_rfl) (fun _ _ _ h => h) (Or.inl ⟨by rfl, ?hy23⟩) (fun _ => HS) ?_
  case hy23 => ((intro u' hT; go_simp); try with_reducible rfl)
  try simp only [List.getElem_toArray, List.getElem_cons_succ, List.getElem_cons_zero, Act.put, List.setIfInBounds_toArray, List.set_cons_zero, List.set_cons_succ]
  refine GoS.pure (i := 23) (v := ?_) rfl (by kernel_rfl) (by kernel_rfl) (by kernel_rfl) (by kernel_rfl) (fun _ _ _ h => h) (Or.inl ⟨by rfl, ?hy24⟩) (fun _ => HS) ?_
  case hy24 => ((intro u' hT; go_simp); try with_reducible rfl)
  try simp only [List.getElem_toArray, List.getElem_cons_succ, List.getElem_cons_zero, Act.put, List.setIfInBounds_toArray, List.set_cons_zero, List.set_cons_succ]
  refine GoS.pure (i := 24) (v := ?_) rfl (by kernel_rfl) (by kernel_rfl) (by kernel_rfl) (by kernel_rfl) (fun _ _ _ h => h) (Or.inl ⟨by rfl, ?hy25⟩) (fun _ => HS) ?_
  case hy25 => ((intro u' hT; go_simp); try with_reducible rfl)
  try simp only [List.getElem_toArray, List.getElem_cons_succ, List.getElem_cons_zero, Act.put, List.setIfInBounds_toArray, List.set_cons_zero, List.set_cons_succ]
  refine GoS.pure (i := 25) (v := ?_) rfl (by kernel_rfl) (by kernel_rfl) (by kernel_rfl) (by kernel_rfl) (fun _ _ _ h => h) (Or.inl ⟨by rfl, ?hy26⟩) (fun _ => HS) ?_
  case hy26 => ((intro u' hT; go_simp); try with_reducible rfl)
  try simp only [List.getElem_toArray, List.getElem_cons_succ, List.getElem_cons_zero, Act.put, List.setIfInBounds_toArray, List.set_cons_zero, List.set_cons_succ]
  refine GoS.store (i := 26) (by kernel_rfl) rfl (by kernel_rfl) (fun K hK => ?_)
  go_simp
  refine hK.out _ _ ?_
  clear hK K
  try simp only [List.getElem_toArray, List.getElem_cons_succ, List.getElem_cons_zero, Act.put, List.setIfInBounds_toArray, List.set_cons_zero, List.set_cons_succ]
  refine GoS.done (by kernel_rfl) ?_
  have X := Lib.hid HS.x; clear HS
  go_wp2_with fail
  refine (s_entier _).mono ?_
  rintro e w8 ⟨rfl, hx⟩
  have X2 := Lib.hid (X.out.trans hx)
  clear X hx; have X := X2; clear X2
  go_wp2_with fail
  refine (s_round _).mono ?_
  rintro e w9 ⟨rfl, hx⟩
  have X2 := Lib.hid (X.out.trans hx)
  clear X hx; have X := X2; clear X2
  go_wp2_with fail
  refine (s_parse2 _ (HT.out.r.later X.out)).mono ?_
  rintro e w10 ⟨rfl, hx⟩
  have X2 := Lib.hid (X.out.trans hx)
  clear X hx; have X := X2; clear X2
  go_wp2_with fail
  refine (pow_none 0 (-1) (by decide +kernel) (by omega) _).mono ?_
  rintro e w11 ⟨rfl, hx⟩
  have X2 := Lib.hid (X.out.trans hx)
  clear X hx; have X := X2; clear X2
  go_wp2_with fail
  refine (s_print2 _ (HT.out.p.later X.out)).mono ?_
  rintro e w12 ⟨rfl, hx⟩
  have X2 := Lib.hid (X.out.trans hx)
  clear X hx; have X := X2; clear X2
  go_wp2_with fail
  refine (s_fromInt _).mono ?_
  rintro e w13 ⟨rfl, hx⟩
  have X2 := Lib.hid (X.out.trans hx)
  clear X hx; have X := X2; clear X2
  go_wp2_with fail
  refine (two_at 24 1 (by omega) (by omega) (by omega) _).mono ?_
  rintro e w14 ⟨rfl, hx⟩
  have X2 := Lib.hid (X.out.trans hx)
  clear X hx; have X := X2; clear X2
  go_wp2
  go_ret
  exact ⟨rfl, X.out⟩
end Go.Proofs.YtoeahfddnjbhbaaGreatDoor

namespace Go.Proofs.YtoeahfddnjbhbaaGreatDoor
open Go.RowKit

theorem Index_at {a : Int} (a1 : -2533359615 ≤ a) (a2 : a ≤ 2533359615) (w : World) : Calls Tryz.prog 24 #[.agg #[.int .i64 (atV a).1, .int .i64 (atV a).2]] w fun e w' => e = .returned (.tuple #[.int .i64 a, .int .i64 0]) ∧ Ext w w' := by
  have h := Index_good (atV a).1 (atV a).2 w (valid_at a1 a2)
  rwa [place_at a1 a2] at h
theorem Cmp_at {a b : Int} (a1 : -2533359615 ≤ a) (a2 : a ≤ 2533359615) (b1 : -2533359615 ≤ b) (b2 : b ≤ 2533359615) (c : Int) (hc : cmpI a b = c) (w : World) : Calls Tryz.prog 29 #[.agg #[.int .i64 (atV a).1, .int .i64 (atV a).2], .agg #[.int .i64 (atV b).1, .int .i64 (atV b).2]] w fun e w' => e = .returned (.tuple #[.int .i64 c, .int .i64 0]) ∧ Ext w w' := by
  have hv : (validV (atV a).1 (atV a).2 && validV (atV b).1 (atV b).2) = true := by rw [valid_at a1 a2, valid_at b1 b2]; rfl
  by_cases h : ((atV a).1 == (atV b).1 && (atV a).2 == (atV b).2) = true
  · have k := Cmp_same _ _ _ _ hv h w
    have e : a = b := by
      rw [Bool.and_eq_true] at h
      rw [← place_at a1 a2, ← place_at b1 b2, eq_of_beq h.1, eq_of_beq h.2]
    have : c = 0 := by rw [← hc, e]; unfold cmpI; rw [if_neg (by omega), if_neg (by omega)]
    rwa [this]
  · have k := Cmp_diff _ _ _ _ hv (by simpa using h) w
    rwa [place_at a1 a2, place_at b1 b2, hc] at k
theorem Valid_at {a : Int} (a1 : -2533359615 ≤ a) (a2 : a ≤ 2533359615) (w : World) : Calls Tryz.prog 22 #[.agg #[.int .i64 (atV a).1, .int .i64 (atV a).2]] w fun e w' => e = .returned (.bool true) ∧ Ext w w' := by
  have h := valid_any (atV a).1 (atV a).2 w
  rwa [valid_at a1 a2] at h
theorem Next_at_top (w : World) : Calls Tryz.prog 25 #[.agg #[.int .i64 (atV 2533359615).1, .int .i64 (atV 2533359615).2]] w fun e w' => e = .returned (.tuple #[.agg #[.int .i64 0, .int .i64 0], .int .i64 3]) ∧ Ext w w' :=
  Next_top _ _ 2533359615 (place_at (by omega) (by omega)) (by decide) w (valid_at (by omega) (by omega))
theorem Next_at {a : Int} (a1 : -2533359615 ≤ a) (a2 : a ≤ 2533359615) (h : a ≠ 2533359615) (w : World) : Calls Tryz.prog 25 #[.agg #[.int .i64 (atV a).1, .int .i64 (atV a).2]] w fun e w' => e = .returned (.tuple #[.agg #[.int .i64 (atV (a + 1)).1, .int .i64 (atV (a + 1)).2], .int .i64 0]) ∧ Ext w w' :=
  Next_good _ _ a (place_at a1 a2) (by simpa using h) (by omega) (by omega) w (valid_at a1 a2)
set_option maxRecDepth 100000 in
set_option maxHeartbeats 8000000 in
theorem order_lt (w : World) (ht : Tb w) (i j : Int) (i1 : -9223372036854775808 ≤ i) (i2 : i ≤ 9223372036854775807) (j1 : -9223372036854775808 ≤ j) (j2 : j ≤ 9223372036854775807) (a b : Int) (ha : i.tmod 2533359616 = a) (hb : j.tmod 2533359616 = b) (a1 : -2533359615 ≤ a) (a2 : a ≤ 2533359615) (b1 : -2533359615 ≤ b) (b2 : b ≤ 2533359615) (hab : a < b) (htop : a ≠ 2533359615) :
    Calls Tryz.prog 9 #[.int .i64 i, .int .i64 j] w fun e w' => e = .returned (.bool true) ∧ Ext w w' := by
  have HT := Lib.hid ht; clear ht
  have eqR := eqReal
  have ta : a.tmod 2533359616 = a := by rw [← ha]; exact Int.tmod_tmod_of_dvd _ ⟨1, rfl⟩
  have tb : b.tmod 2533359616 = b := by rw [← hb]; exact Int.tmod_tmod_of_dvd _ ⟨1, rfl⟩
  have A := Lib.hid (at_law a (by omega) (by omega) a ta a1 a2)
  have B := Lib.hid (at_law b (by omega) (by omega) b tb b1 b2)
  have I := Lib.hid (@Index_at a a1 a2)
  have CA := Lib.hid (@Cmp_at a b a1 a2 b1 b2 (-1) (by unfold cmpI; split <;> (try split) <;> omega))
  have CB := Lib.hid (@Cmp_at b a b1 b2 a1 a2 1 (by unfold cmpI; split <;> (try split) <;> omega))
  have V := Lib.hid (@Valid_at a a1 a2)
  have N := Lib.hid (@Next_at a a1 a2 htop)
  have J := Lib.hid (@Index_at (a + 1) (by omega) (by omega))
  have wr : IntKind.i64.wrap (a + 1) = a + 1 := IntWalk.i64_in _ ⟨by omega, by omega⟩
  have htop' : (a == 2533359615) = false := by simpa using htop
  generalize atV (a + 1) = nx at *
  have e1 : (a == b) = false := by simp; omega
  have e2 : (a < b) = True := by simp; omega
  have e3 : decide (a < b) = true := by simp; omega
  clear hab
  generalize atV a = p at *
  generalize atV b = q at *
  have S := Lib.hid sanity_any
  go_enter Tryz.func9, Tryz.ntmps9
  go_wp2_with fail
  refine (A.out _).mono ?_
  rintro e w1 ⟨rfl, hx⟩
  have X1 : Hid (Ext w w1) := Lib.hid (hx)
  clear hx
  have X := X1; clear X1
  go_wp2_with fail
  refine (B.out _).mono ?_
  rintro e w2 ⟨rfl, hx⟩
  have R2 : Rc w2 w1.heap.size p.1 p.2 := (rc_new w1 p.1 p.2 23).later hx
  have X2 : Hid (Ext w w2) := Lib.hid ((X.out.alloc _).trans hx)
  clear hx
  clear X
  have X := X2; clear X2
  have H2_0 := Lib.hid R2; clear R2
  have gx0 : ∀ ob, (w2.alloc ob).cell? ⟨w1.heap.size, 0, none⟩ = some (.int .i64 p.1) := fun ob => (H2_0.out.later ((Ext.refl _).alloc ob)).c0
  have gx1 : ∀ ob, (w2.alloc ob).cell? ⟨w1.heap.size, 1, none⟩ = some (.int .i64 p.2) := fun ob => (H2_0.out.later ((Ext.refl _).alloc ob)).c1
  go_wp2_with fail
  refine (I.out _).mono ?_
  rintro e w3 ⟨rfl, hx⟩
  have R3 : Rc w3 w2.heap.size q.1 q.2 := (rc_new w2 q.1 q.2 23).later hx
  have X3 : Hid (Ext w w3) := Lib.hid ((X.out.alloc _).trans hx)
  have Q3_0 : Rc w3 w1.heap.size p.1 p.2 := (H2_0.out.later ((Ext.refl _).alloc _)).later hx
  clear hx
  clear X
  have X := X3; clear X3
  have H3_0 := Lib.hid Q3_0; clear Q3_0
  have H3_1 := Lib.hid R3; clear R3
  clear gx0 gx1
  have cx0 := H3_0.out.c0; have cx1 := H3_0.out.c1
  have cy0 := H3_1.out.c0; have cy1 := H3_1.out.c1
  go_wp2_with fail
  refine (CA.out _).mono ?_
  rintro e w4 ⟨rfl, hx⟩
  have X4 : Hid (Ext w w4) := Lib.hid (X.out.trans hx)
  have Q4_0 : Rc w4 w1.heap.size p.1 p.2 := H3_0.out.later hx
  have Q4_1 : Rc w4 w2.heap.size q.1 q.2 := H3_1.out.later hx
  clear hx
  clear X
  have X := X4; clear X4
  have H4_0 := Lib.hid Q4_0; clear Q4_0
  have H4_1 := Lib.hid Q4_1; clear Q4_1
  clear cx0 cx1 cy0 cy1
  have cx0 := H4_0.out.c0; have cx1 := H4_0.out.c1
  have cy0 := H4_1.out.c0; have cy1 := H4_1.out.c1
  go_wp2_with fail
  refine (CB.out _).mono ?_
  rintro e w5 ⟨rfl, hx⟩
  have X5 : Hid (Ext w w5) := Lib.hid (X.out.trans hx)
  have Q5_0 : Rc w5 w1.heap.size p.1 p.2 := H4_0.out.later hx
  have Q5_1 : Rc w5 w2.heap.size q.1 q.2 := H4_1.out.later hx
  clear hx
  clear X
  have X := X5; clear X5
  have H5_0 := Lib.hid Q5_0; clear Q5_0
  have H5_1 := Lib.hid Q5_1; clear Q5_1
  clear cx0 cx1 cy0 cy1
  have cx0 := H5_0.out.c0; have cx1 := H5_0.out.c1
  go_wp2_with fail
  refine (N.out _).mono ?_
  rintro e w6 ⟨rfl, hx⟩
  have X6 : Hid (Ext w w6) := Lib.hid (X.out.trans hx)
  have Q6_0 : Rc w6 w1.heap.size p.1 p.2 := H5_0.out.later hx
  have Q6_1 : Rc w6 w2.heap.size q.1 q.2 := H5_1.out.later hx
  clear hx
  clear X
  have X := X6; clear X6
  have H6_0 := Lib.hid Q6_0; clear Q6_0
  have H6_1 := Lib.hid Q6_1; clear Q6_1
  clear cx0 cx1
  have gx0 : ∀ ob, (w6.alloc ob).cell? ⟨w1.heap.size, 0, none⟩ = some (.int .i64 p.1) := fun ob => (H6_0.out.later ((Ext.refl _).alloc ob)).c0
  have gx1 : ∀ ob, (w6.alloc ob).cell? ⟨w1.heap.size, 1, none⟩ = some (.int .i64 p.2) := fun ob => (H6_0.out.later ((Ext.refl _).alloc ob)).c1
  go_wp2_with fail
  refine (V.out _).mono ?_
  rintro e w7 ⟨rfl, hx⟩
  have R7 : Rc w7 w6.heap.size nx.1 nx.2 := (rc_new w6 nx.1 nx.2 23).later hx
  have X7 : Hid (Ext w w7) := Lib.hid ((X.out.alloc _).trans hx)
  have Q7_0 : Rc w7 w1.heap.size p.1 p.2 := (H6_0.out.later ((Ext.refl _).alloc _)).later hx
  have Q7_1 : Rc w7 w2.heap.size q.1 q.2 := (H6_1.out.later ((Ext.refl _).alloc _)).later hx
  clear hx
  clear X
  have X := X7; clear X7
  have H7_0 := Lib.hid Q7_0; clear Q7_0
  have H7_1 := Lib.hid Q7_1; clear Q7_1
  have H7_2 := Lib.hid R7; clear R7
  clear gx0 gx1
  have cn0 := H7_2.out.c0; have cn1 := H7_2.out.c1
  go_wp2_with fail
  refine (J.out _).mono ?_
  rintro e w8 ⟨rfl, hx⟩
  have X8 : Hid (Ext w w8) := Lib.hid (X.out.trans hx)
  have Q8_0 : Rc w8 w1.heap.size p.1 p.2 := H7_0.out.later hx
  have Q8_1 : Rc w8 w2.heap.size q.1 q.2 := H7_1.out.later hx
  have Q8_2 : Rc w8 w6.heap.size nx.1 nx.2 := H7_2.out.later hx
  clear hx
  clear X
  have X := X8; clear X8
  have H8_0 := Lib.hid Q8_0; clear Q8_0
  have H8_1 := Lib.hid Q8_1; clear Q8_1
  have H8_2 := Lib.hid Q8_2; clear Q8_2
  clear cn0 cn1
  go_wp2_with fail
  refine (S.out _ (HT.out.later X.out)).mono ?_
  rintro e w9 ⟨rfl, hx⟩
  have X9 : Hid (Ext w w9) := Lib.hid (X.out.trans hx)
  have Q9_0 : Rc w9 w1.heap.size p.1 p.2 := H8_0.out.later hx
  have Q9_1 : Rc w9 w2.heap.size q.1 q.2 := H8_1.out.later hx
  have Q9_2 : Rc w9 w6.heap.size nx.1 nx.2 := H8_2.out.later hx
  clear hx
  clear X
  have X := X9; clear X9
  have H9_0 := Lib.hid Q9_0; clear Q9_0
  have H9_1 := Lib.hid Q9_1; clear Q9_1
  have H9_2 := Lib.hid Q9_2; clear Q9_2
  go_wp2
  go_ret
  exact ⟨rfl, X.out⟩
set_option maxRecDepth 100000 in
set_option maxHeartbeats 8000000 in
theorem order_eq (w : World) (ht : Tb w) (i j : Int) (i1 : -9223372036854775808 ≤ i) (i2 : i ≤ 9223372036854775807) (j1 : -9223372036854775808 ≤ j) (j2 : j ≤ 9223372036854775807) (a b : Int) (ha : i.tmod 2533359616 = a) (hb : j.tmod 2533359616 = b) (a1 : -2533359615 ≤ a) (a2 : a ≤ 2533359615) (b1 : -2533359615 ≤ b) (b2 : b ≤ 2533359615) (hab : a = b) (htop : a ≠ 2533359615) :
    Calls Tryz.prog 9 #[.int .i64 i, .int .i64 j] w fun e w' => e = .returned (.bool true) ∧ Ext w w' := by
  have HT := Lib.hid ht; clear ht
  have eqR := eqReal
  have ta : a.tmod 2533359616 = a := by rw [← ha]; exact Int.tmod_tmod_of_dvd _ ⟨1, rfl⟩
  have tb : b.tmod 2533359616 = b := by rw [← hb]; exact Int.tmod_tmod_of_dvd _ ⟨1, rfl⟩
  have A := Lib.hid (at_law a (by omega) (by omega) a ta a1 a2)
  have B := Lib.hid (at_law b (by omega) (by omega) b tb b1 b2)
  have I := Lib.hid (@Index_at a a1 a2)
  have CA := Lib.hid (@Cmp_at a b a1 a2 b1 b2 0 (by unfold cmpI; split <;> (try split) <;> omega))
  have CB := Lib.hid (@Cmp_at b a b1 b2 a1 a2 0 (by unfold cmpI; split <;> (try split) <;> omega))
  have V := Lib.hid (@Valid_at a a1 a2)
  have N := Lib.hid (@Next_at a a1 a2 htop)
  have J := Lib.hid (@Index_at (a + 1) (by omega) (by omega))
  have wr : IntKind.i64.wrap (a + 1) = a + 1 := IntWalk.i64_in _ ⟨by omega, by omega⟩
  have htop' : (a == 2533359615) = false := by simpa using htop
  generalize atV (a + 1) = nx at *
  have e1 : (a == b) = true := by simpa using hab
  have e2 : (a < b) = False := by simp; omega
  have e3 : decide (a < b) = false := by simp; omega
  clear hab
  generalize atV a = p at *
  generalize atV b = q at *
  have S := Lib.hid sanity_any
  go_enter Tryz.func9, Tryz.ntmps9
  go_wp2_with fail
  refine (A.out _).mono ?_
  rintro e w1 ⟨rfl, hx⟩
  have X1 : Hid (Ext w w1) := Lib.hid (hx)
  clear hx
  have X := X1; clear X1
  go_wp2_with fail
  refine (B.out _).mono ?_
  rintro e w2 ⟨rfl, hx⟩
  have R2 : Rc w2 w1.heap.size p.1 p.2 := (rc_new w1 p.1 p.2 23).later hx
  have X2 : Hid (Ext w w2) := Lib.hid ((X.out.alloc _).trans hx)
  clear hx
  clear X
  have X := X2; clear X2
  have H2_0 := Lib.hid R2; clear R2
  have gx0 : ∀ ob, (w2.alloc ob).cell? ⟨w1.heap.size, 0, none⟩ = some (.int .i64 p.1) := fun ob => (H2_0.out.later ((Ext.refl _).alloc ob)).c0
  have gx1 : ∀ ob, (w2.alloc ob).cell? ⟨w1.heap.size, 1, none⟩ = some (.int .i64 p.2) := fun ob => (H2_0.out.later ((Ext.refl _).alloc ob)).c1
  go_wp2_with fail
  refine (I.out _).mono ?_
  rintro e w3 ⟨rfl, hx⟩
  have R3 : Rc w3 w2.heap.size q.1 q.2 := (rc_new w2 q.1 q.2 23).later hx
  have X3 : Hid (Ext w w3) := Lib.hid ((X.out.alloc _).trans hx)
  have Q3_0 : Rc w3 w1.heap.size p.1 p.2 := (H2_0.out.later ((Ext.refl _).alloc _)).later hx
  clear hx
  clear X
  have X := X3; clear X3
  have H3_0 := Lib.hid Q3_0; clear Q3_0
  have H3_1 := Lib.hid R3; clear R3
  clear gx0 gx1
  have cx0 := H3_0.out.c0; have cx1 := H3_0.out.c1
  have cy0 := H3_1.out.c0; have cy1 := H3_1.out.c1
  go_wp2_with fail
  refine (CA.out _).mono ?_
  rintro e w4 ⟨rfl, hx⟩
  have X4 : Hid (Ext w w4) := Lib.hid (X.out.trans hx)
  have Q4_0 : Rc w4 w1.heap.size p.1 p.2 := H3_0.out.later hx
  have Q4_1 : Rc w4 w2.heap.size q.1 q.2 := H3_1.out.later hx
  clear hx
  clear X
  have X := X4; clear X4
  have H4_0 := Lib.hid Q4_0; clear Q4_0
  have H4_1 := Lib.hid Q4_1; clear Q4_1
  clear cx0 cx1 cy0 cy1
  have cx0 := H4_0.out.c0; have cx1 := H4_0.out.c1
  have cy0 := H4_1.out.c0; have cy1 := H4_1.out.c1
  go_wp2_with fail
  refine (CB.out _).mono ?_
  rintro e w5 ⟨rfl, hx⟩
  have X5 : Hid (Ext w w5) := Lib.hid (X.out.trans hx)
  have Q5_0 : Rc w5 w1.heap.size p.1 p.2 := H4_0.out.later hx
  have Q5_1 : Rc w5 w2.heap.size q.1 q.2 := H4_1.out.later hx
  clear hx
  clear X
  have X := X5; clear X5
  have H5_0 := Lib.hid Q5_0; clear Q5_0
  have H5_1 := Lib.hid Q5_1; clear Q5_1
  clear cx0 cx1 cy0 cy1
  have cx0 := H5_0.out.c0; have cx1 := H5_0.out.c1
  go_wp2_with fail
  refine (N.out _).mono ?_
  rintro e w6 ⟨rfl, hx⟩
  have X6 : Hid (Ext w w6) := Lib.hid (X.out.trans hx)
  have Q6_0 : Rc w6 w1.heap.size p.1 p.2 := H5_0.out.later hx
  have Q6_1 : Rc w6 w2.heap.size q.1 q.2 := H5_1.out.later hx
  clear hx
  clear X
  have X := X6; clear X6
  have H6_0 := Lib.hid Q6_0; clear Q6_0
  have H6_1 := Lib.hid Q6_1; clear Q6_1
  clear cx0 cx1
  have gx0 : ∀ ob, (w6.alloc ob).cell? ⟨w1.heap.size, 0, none⟩ = some (.int .i64 p.1) := fun ob => (H6_0.out.later ((Ext.refl _).alloc ob)).c0
  have gx1 : ∀ ob, (w6.alloc ob).cell? ⟨w1.heap.size, 1, none⟩ = some (.int .i64 p.2) := fun ob => (H6_0.out.later ((Ext.refl _).alloc ob)).c1
  go_wp2_with fail
  refine (V.out _).mono ?_
  rintro e w7 ⟨rfl, hx⟩
  have R7 : Rc w7 w6.heap.size nx.1 nx.2 := (rc_new w6 nx.1 nx.2 23).later hx
  have X7 : Hid (Ext w w7) := Lib.hid ((X.out.alloc _).trans hx)
  have Q7_0 : Rc w7 w1.heap.size p.1 p.2 := (H6_0.out.later ((Ext.refl _).alloc _)).later hx
  have Q7_1 : Rc w7 w2.heap.size q.1 q.2 := (H6_1.out.later ((Ext.refl _).alloc _)).later hx
  clear hx
  clear X
  have X := X7; clear X7
  have H7_0 := Lib.hid Q7_0; clear Q7_0
  have H7_1 := Lib.hid Q7_1; clear Q7_1
  have H7_2 := Lib.hid R7; clear R7
  clear gx0 gx1
  have cn0 := H7_2.out.c0; have cn1 := H7_2.out.c1
  go_wp2_with fail
  refine (J.out _).mono ?_
  rintro e w8 ⟨rfl, hx⟩
  have X8 : Hid (Ext w w8) := Lib.hid (X.out.trans hx)
  have Q8_0 : Rc w8 w1.heap.size p.1 p.2 := H7_0.out.later hx
  have Q8_1 : Rc w8 w2.heap.size q.1 q.2 := H7_1.out.later hx
  have Q8_2 : Rc w8 w6.heap.size nx.1 nx.2 := H7_2.out.later hx
  clear hx
  clear X
  have X := X8; clear X8
  have H8_0 := Lib.hid Q8_0; clear Q8_0
  have H8_1 := Lib.hid Q8_1; clear Q8_1
  have H8_2 := Lib.hid Q8_2; clear Q8_2
  clear cn0 cn1
  go_wp2_with fail
  refine (S.out _ (HT.out.later X.out)).mono ?_
  rintro e w9 ⟨rfl, hx⟩
  have X9 : Hid (Ext w w9) := Lib.hid (X.out.trans hx)
  have Q9_0 : Rc w9 w1.heap.size p.1 p.2 := H8_0.out.later hx
  have Q9_1 : Rc w9 w2.heap.size q.1 q.2 := H8_1.out.later hx
  have Q9_2 : Rc w9 w6.heap.size nx.1 nx.2 := H8_2.out.later hx
  clear hx
  clear X
  have X := X9; clear X9
  have H9_0 := Lib.hid Q9_0; clear Q9_0
  have H9_1 := Lib.hid Q9_1; clear Q9_1
  have H9_2 := Lib.hid Q9_2; clear Q9_2
  go_wp2
  go_ret
  exact ⟨rfl, X.out⟩
set_option maxRecDepth 100000 in
set_option maxHeartbeats 8000000 in
theorem order_gt (w : World) (ht : Tb w) (i j : Int) (i1 : -9223372036854775808 ≤ i) (i2 : i ≤ 9223372036854775807) (j1 : -9223372036854775808 ≤ j) (j2 : j ≤ 9223372036854775807) (a b : Int) (ha : i.tmod 2533359616 = a) (hb : j.tmod 2533359616 = b) (a1 : -2533359615 ≤ a) (a2 : a ≤ 2533359615) (b1 : -2533359615 ≤ b) (b2 : b ≤ 2533359615) (hab : b < a) (htop : a ≠ 2533359615) :
    Calls Tryz.prog 9 #[.int .i64 i, .int .i64 j] w fun e w' => e = .returned (.bool true) ∧ Ext w w' := by
  have HT := Lib.hid ht; clear ht
  have eqR := eqReal
  have ta : a.tmod 2533359616 = a := by rw [← ha]; exact Int.tmod_tmod_of_dvd _ ⟨1, rfl⟩
  have tb : b.tmod 2533359616 = b := by rw [← hb]; exact Int.tmod_tmod_of_dvd _ ⟨1, rfl⟩
  have A := Lib.hid (at_law a (by omega) (by omega) a ta a1 a2)
  have B := Lib.hid (at_law b (by omega) (by omega) b tb b1 b2)
  have I := Lib.hid (@Index_at a a1 a2)
  have CA := Lib.hid (@Cmp_at a b a1 a2 b1 b2 1 (by unfold cmpI; split <;> (try split) <;> omega))
  have CB := Lib.hid (@Cmp_at b a b1 b2 a1 a2 (-1) (by unfold cmpI; split <;> (try split) <;> omega))
  have V := Lib.hid (@Valid_at a a1 a2)
  have N := Lib.hid (@Next_at a a1 a2 htop)
  have J := Lib.hid (@Index_at (a + 1) (by omega) (by omega))
  have wr : IntKind.i64.wrap (a + 1) = a + 1 := IntWalk.i64_in _ ⟨by omega, by omega⟩
  have htop' : (a == 2533359615) = false := by simpa using htop
  generalize atV (a + 1) = nx at *
  have e1 : (a == b) = false := by simp; omega
  have e2 : (a < b) = False := by simp; omega
  have e3 : decide (a < b) = false := by simp; omega
  clear hab
  generalize atV a = p at *
  generalize atV b = q at *
  have S := Lib.hid sanity_any
  go_enter Tryz.func9, Tryz.ntmps9
  go_wp2_with fail
  refine (A.out _).mono ?_
  rintro e w1 ⟨rfl, hx⟩
  have X1 : Hid (Ext w w1) := Lib.hid (hx)
  clear hx
  have X := X1; clear X1
  go_wp2_with fail
  refine (B.out _).mono ?_
  rintro e w2 ⟨rfl, hx⟩
  have R2 : Rc w2 w1.heap.size p.1 p.2 := (rc_new w1 p.1 p.2 23).later hx
  have X2 : Hid (Ext w w2) := Lib.hid ((X.out.alloc _).trans hx)
  clear hx
  clear X
  have X := X2; clear X2
  have H2_0 := Lib.hid R2; clear R2
  have gx0 : ∀ ob, (w2.alloc ob).cell? ⟨w1.heap.size, 0, none⟩ = some (.int .i64 p.1) := fun ob => (H2_0.out.later ((Ext.refl _).alloc ob)).c0
  have gx1 : ∀ ob, (w2.alloc ob).cell? ⟨w1.heap.size, 1, none⟩ = some (.int .i64 p.2) := fun ob => (H2_0.out.later ((Ext.refl _).alloc ob)).c1
  go_wp2_with fail
  refine (I.out _).mono ?_
  rintro e w3 ⟨rfl, hx⟩
  have R3 : Rc w3 w2.heap.size q.1 q.2 := (rc_new w2 q.1 q.2 23).later hx
  have X3 : Hid (Ext w w3) := Lib.hid ((X.out.alloc _).trans hx)
  have Q3_0 : Rc w3 w1.heap.size p.1 p.2 := (H2_0.out.later ((Ext.refl _).alloc _)).later hx
  clear hx
  clear X
  have X := X3; clear X3
  have H3_0 := Lib.hid Q3_0; clear Q3_0
  have H3_1 := Lib.hid R3; clear R3
  clear gx0 gx1
  have cx0 := H3_0.out.c0; have cx1 := H3_0.out.c1
  have cy0 := H3_1.out.c0; have cy1 := H3_1.out.c1
  go_wp2_with fail
  refine (CA.out _).mono ?_
  rintro e w4 ⟨rfl, hx⟩
  have X4 : Hid (Ext w w4) := Lib.hid (X.out.trans hx)
  have Q4_0 : Rc w4 w1.heap.size p.1 p.2 := H3_0.out.later hx
  have Q4_1 : Rc w4 w2.heap.size q.1 q.2 := H3_1.out.later hx
  clear hx
  clear X
  have X := X4; clear X4
  have H4_0 := Lib.hid Q4_0; clear Q4_0
  have H4_1 := Lib.hid Q4_1; clear Q4_1
  clear cx0 cx1 cy0 cy1
  have cx0 := H4_0.out.c0; have cx1 := H4_0.out.c1
  have cy0 := H4_1.out.c0; have cy1 := H4_1.out.c1
  go_wp2_with fail
  refine (CB.out _).mono ?_
  rintro e w5 ⟨rfl, hx⟩
  have X5 : Hid (Ext w w5) := Lib.hid (X.out.trans hx)
  have Q5_0 : Rc w5 w1.heap.size p.1 p.2 := H4_0.out.later hx
  have Q5_1 : Rc w5 w2.heap.size q.1 q.2 := H4_1.out.later hx
  clear hx
  clear X
  have X := X5; clear X5
  have H5_0 := Lib.hid Q5_0; clear Q5_0
  have H5_1 := Lib.hid Q5_1; clear Q5_1
  clear cx0 cx1 cy0 cy1
  have cx0 := H5_0.out.c0; have cx1 := H5_0.out.c1
  go_wp2_with fail
  refine (N.out _).mono ?_
  rintro e w6 ⟨rfl, hx⟩
  have X6 : Hid (Ext w w6) := Lib.hid (X.out.trans hx)
  have Q6_0 : Rc w6 w1.heap.size p.1 p.2 := H5_0.out.later hx
  have Q6_1 : Rc w6 w2.heap.size q.1 q.2 := H5_1.out.later hx
  clear hx
  clear X
  have X := X6; clear X6
  have H6_0 := Lib.hid Q6_0; clear Q6_0
  have H6_1 := Lib.hid Q6_1; clear Q6_1
  clear cx0 cx1
  have gx0 : ∀ ob, (w6.alloc ob).cell? ⟨w1.heap.size, 0, none⟩ = some (.int .i64 p.1) := fun ob => (H6_0.out.later ((Ext.refl _).alloc ob)).c0
  have gx1 : ∀ ob, (w6.alloc ob).cell? ⟨w1.heap.size, 1, none⟩ = some (.int .i64 p.2) := fun ob => (H6_0.out.later ((Ext.refl _).alloc ob)).c1
  go_wp2_with fail
  refine (V.out _).mono ?_
  rintro e w7 ⟨rfl, hx⟩
  have R7 : Rc w7 w6.heap.size nx.1 nx.2 := (rc_new w6 nx.1 nx.2 23).later hx
  have X7 : Hid (Ext w w7) := Lib.hid ((X.out.alloc _).trans hx)
  have Q7_0 : Rc w7 w1.heap.size p.1 p.2 := (H6_0.out.later ((Ext.refl _).alloc _)).later hx
  have Q7_1 : Rc w7 w2.heap.size q.1 q.2 := (H6_1.out.later ((Ext.refl _).alloc _)).later hx
  clear hx
  clear X
  have X := X7; clear X7
  have H7_0 := Lib.hid Q7_0; clear Q7_0
  have H7_1 := Lib.hid Q7_1; clear Q7_1
  have H7_2 := Lib.hid R7; clear R7
  clear gx0 gx1
  have cn0 := H7_2.out.c0; have cn1 := H7_2.out.c1
  go_wp2_with fail
  refine (J.out _).mono ?_
  rintro e w8 ⟨rfl, hx⟩
  have X8 : Hid (Ext w w8) := Lib.hid (X.out.trans hx)
  have Q8_0 : Rc w8 w1.heap.size p.1 p.2 := H7_0.out.later hx
  have Q8_1 : Rc w8 w2.heap.size q.1 q.2 := H7_1.out.later hx
  have Q8_2 : Rc w8 w6.heap.size nx.1 nx.2 := H7_2.out.later hx
  clear hx
  clear X
  have X := X8; clear X8
  have H8_0 := Lib.hid Q8_0; clear Q8_0
  have H8_1 := Lib.hid Q8_1; clear Q8_1
  have H8_2 := Lib.hid Q8_2; clear Q8_2
  clear cn0 cn1
  go_wp2_with fail
  refine (S.out _ (HT.out.later X.out)).mono ?_
  rintro e w9 ⟨rfl, hx⟩
  have X9 : Hid (Ext w w9) := Lib.hid (X.out.trans hx)
  have Q9_0 : Rc w9 w1.heap.size p.1 p.2 := H8_0.out.later hx
  have Q9_1 : Rc w9 w2.heap.size q.1 q.2 := H8_1.out.later hx
  have Q9_2 : Rc w9 w6.heap.size nx.1 nx.2 := H8_2.out.later hx
  clear hx
  clear X
  have X := X9; clear X9
  have H9_0 := Lib.hid Q9_0; clear Q9_0
  have H9_1 := Lib.hid Q9_1; clear Q9_1
  have H9_2 := Lib.hid Q9_2; clear Q9_2
  go_wp2
  go_ret
  exact ⟨rfl, X.out⟩
set_option maxRecDepth 100000 in
set_option maxHeartbeats 8000000 in
theorem order_eqt (w : World) (ht : Tb w) (i j : Int) (i1 : -9223372036854775808 ≤ i) (i2 : i ≤ 9223372036854775807) (j1 : -9223372036854775808 ≤ j) (j2 : j ≤ 9223372036854775807) (a b : Int) (ha : i.tmod 2533359616 = a) (hb : j.tmod 2533359616 = b) (a1 : -2533359615 ≤ a) (a2 : a ≤ 2533359615) (b1 : -2533359615 ≤ b) (b2 : b ≤ 2533359615) (hab : a = b) (htop : a = 2533359615) :
    Calls Tryz.prog 9 #[.int .i64 i, .int .i64 j] w fun e w' => e = .returned (.bool true) ∧ Ext w w' := by
  have HT := Lib.hid ht; clear ht
  have eqR := eqReal
  have ta : a.tmod 2533359616 = a := by rw [← ha]; exact Int.tmod_tmod_of_dvd _ ⟨1, rfl⟩
  have tb : b.tmod 2533359616 = b := by rw [← hb]; exact Int.tmod_tmod_of_dvd _ ⟨1, rfl⟩
  have A := Lib.hid (at_law a (by omega) (by omega) a ta a1 a2)
  have B := Lib.hid (at_law b (by omega) (by omega) b tb b1 b2)
  have I := Lib.hid (@Index_at a a1 a2)
  have CA := Lib.hid (@Cmp_at a b a1 a2 b1 b2 0 (by unfold cmpI; split <;> (try split) <;> omega))
  have CB := Lib.hid (@Cmp_at b a b1 b2 a1 a2 0 (by unfold cmpI; split <;> (try split) <;> omega))
  have V := Lib.hid (@Valid_at a a1 a2)
  have N := Lib.hid Next_at_top
  rw [← htop] at N
  have e1 : (a == b) = true := by simpa using hab
  have e2 : (a < b) = False := by simp; omega
  have e3 : decide (a < b) = false := by simp; omega
  clear hab
  have htop' : (a == 2533359615) = true := by simpa using htop
  clear htop
  generalize atV a = p at *
  generalize atV b = q at *
  have S := Lib.hid sanity_any
  go_enter Tryz.func9, Tryz.ntmps9
  go_wp2_with fail
  refine (A.out _).mono ?_
  rintro e w1 ⟨rfl, hx⟩
  have X1 : Hid (Ext w w1) := Lib.hid (hx)
  clear hx
  have X := X1; clear X1
  go_wp2_with fail
  refine (B.out _).mono ?_
  rintro e w2 ⟨rfl, hx⟩
  have R2 : Rc w2 w1.heap.size p.1 p.2 := (rc_new w1 p.1 p.2 23).later hx
  have X2 : Hid (Ext w w2) := Lib.hid ((X.out.alloc _).trans hx)
  clear hx
  clear X
  have X := X2; clear X2
  have H2_0 := Lib.hid R2; clear R2
  have gx0 : ∀ ob, (w2.alloc ob).cell? ⟨w1.heap.size, 0, none⟩ = some (.int .i64 p.1) := fun ob => (H2_0.out.later ((Ext.refl _).alloc ob)).c0
  have gx1 : ∀ ob, (w2.alloc ob).cell? ⟨w1.heap.size, 1, none⟩ = some (.int .i64 p.2) := fun ob => (H2_0.out.later ((Ext.refl _).alloc ob)).c1
  go_wp2_with fail
  refine (I.out _).mono ?_
  rintro e w3 ⟨rfl, hx⟩
  have R3 : Rc w3 w2.heap.size q.1 q.2 := (rc_new w2 q.1 q.2 23).later hx
  have X3 : Hid (Ext w w3) := Lib.hid ((X.out.alloc _).trans hx)
  have Q3_0 : Rc w3 w1.heap.size p.1 p.2 := (H2_0.out.later ((Ext.refl _).alloc _)).later hx
  clear hx
  clear X
  have X := X3; clear X3
  have H3_0 := Lib.hid Q3_0; clear Q3_0
  have H3_1 := Lib.hid R3; clear R3
  clear gx0 gx1
  have cx0 := H3_0.out.c0; have cx1 := H3_0.out.c1
  have cy0 := H3_1.out.c0; have cy1 := H3_1.out.c1
  go_wp2_with fail
  refine (CA.out _).mono ?_
  rintro e w4 ⟨rfl, hx⟩
  have X4 : Hid (Ext w w4) := Lib.hid (X.out.trans hx)
  have Q4_0 : Rc w4 w1.heap.size p.1 p.2 := H3_0.out.later hx
  have Q4_1 : Rc w4 w2.heap.size q.1 q.2 := H3_1.out.later hx
  clear hx
  clear X
  have X := X4; clear X4
  have H4_0 := Lib.hid Q4_0; clear Q4_0
  have H4_1 := Lib.hid Q4_1; clear Q4_1
  clear cx0 cx1 cy0 cy1
  have cx0 := H4_0.out.c0; have cx1 := H4_0.out.c1
  have cy0 := H4_1.out.c0; have cy1 := H4_1.out.c1
  go_wp2_with fail
  refine (CB.out _).mono ?_
  rintro e w5 ⟨rfl, hx⟩
  have X5 : Hid (Ext w w5) := Lib.hid (X.out.trans hx)
  have Q5_0 : Rc w5 w1.heap.size p.1 p.2 := H4_0.out.later hx
  have Q5_1 : Rc w5 w2.heap.size q.1 q.2 := H4_1.out.later hx
  clear hx
  clear X
  have X := X5; clear X5
  have H5_0 := Lib.hid Q5_0; clear Q5_0
  have H5_1 := Lib.hid Q5_1; clear Q5_1
  clear cx0 cx1 cy0 cy1
  have cx0 := H5_0.out.c0; have cx1 := H5_0.out.c1
  go_wp2_with fail
  refine (N.out _).mono ?_
  rintro e w6 ⟨rfl, hx⟩
  have X6 : Hid (Ext w w6) := Lib.hid (X.out.trans hx)
  have Q6_0 : Rc w6 w1.heap.size p.1 p.2 := H5_0.out.later hx
  have Q6_1 : Rc w6 w2.heap.size q.1 q.2 := H5_1.out.later hx
  clear hx
  clear X
  have X := X6; clear X6
  have H6_0 := Lib.hid Q6_0; clear Q6_0
  have H6_1 := Lib.hid Q6_1; clear Q6_1
  clear cx0 cx1
  have gx0 : ∀ ob, (w6.alloc ob).cell? ⟨w1.heap.size, 0, none⟩ = some (.int .i64 p.1) := fun ob => (H6_0.out.later ((Ext.refl _).alloc ob)).c0
  have gx1 : ∀ ob, (w6.alloc ob).cell? ⟨w1.heap.size, 1, none⟩ = some (.int .i64 p.2) := fun ob => (H6_0.out.later ((Ext.refl _).alloc ob)).c1
  go_wp2_with fail
  refine (V.out _).mono ?_
  rintro e w7 ⟨rfl, hx⟩
  have R7 : Rc w7 w6.heap.size 0 0 := (rc_new w6 0 0 23).later hx
  have X7 : Hid (Ext w w7) := Lib.hid ((X.out.alloc _).trans hx)
  have Q7_0 : Rc w7 w1.heap.size p.1 p.2 := (H6_0.out.later ((Ext.refl _).alloc _)).later hx
  have Q7_1 : Rc w7 w2.heap.size q.1 q.2 := (H6_1.out.later ((Ext.refl _).alloc _)).later hx
  clear hx
  clear X
  have X := X7; clear X7
  have H7_0 := Lib.hid Q7_0; clear Q7_0
  have H7_1 := Lib.hid Q7_1; clear Q7_1
  have H7_2 := Lib.hid R7; clear R7
  clear gx0 gx1
  go_wp2_with fail
  refine (S.out _ (HT.out.later X.out)).mono ?_
  rintro e w8 ⟨rfl, hx⟩
  have X8 : Hid (Ext w w8) := Lib.hid (X.out.trans hx)
  have Q8_0 : Rc w8 w1.heap.size p.1 p.2 := H7_0.out.later hx
  have Q8_1 : Rc w8 w2.heap.size q.1 q.2 := H7_1.out.later hx
  have Q8_2 : Rc w8 w6.heap.size 0 0 := H7_2.out.later hx
  clear hx
  clear X
  have X := X8; clear X8
  have H8_0 := Lib.hid Q8_0; clear Q8_0
  have H8_1 := Lib.hid Q8_1; clear Q8_1
  have H8_2 := Lib.hid Q8_2; clear Q8_2
  go_wp2
  go_ret
  exact ⟨rfl, X.out⟩
set_option maxRecDepth 100000 in
set_option maxHeartbeats 8000000 in
theorem order_gtt (w : World) (ht : Tb w) (i j : Int) (i1 : -9223372036854775808 ≤ i) (i2 : i ≤ 9223372036854775807) (j1 : -9223372036854775808 ≤ j) (j2 : j ≤ 9223372036854775807) (a b : Int) (ha : i.tmod 2533359616 = a) (hb : j.tmod 2533359616 = b) (a1 : -2533359615 ≤ a) (a2 : a ≤ 2533359615) (b1 : -2533359615 ≤ b) (b2 : b ≤ 2533359615) (hab : b < a) (htop : a = 2533359615) :
    Calls Tryz.prog 9 #[.int .i64 i, .int .i64 j] w fun e w' => e = .returned (.bool true) ∧ Ext w w' := by
  have HT := Lib.hid ht; clear ht
  have eqR := eqReal
  have ta : a.tmod 2533359616 = a := by rw [← ha]; exact Int.tmod_tmod_of_dvd _ ⟨1, rfl⟩
  have tb : b.tmod 2533359616 = b := by rw [← hb]; exact Int.tmod_tmod_of_dvd _ ⟨1, rfl⟩
  have A := Lib.hid (at_law a (by omega) (by omega) a ta a1 a2)
  have B := Lib.hid (at_law b (by omega) (by omega) b tb b1 b2)
  have I := Lib.hid (@Index_at a a1 a2)
  have CA := Lib.hid (@Cmp_at a b a1 a2 b1 b2 1 (by unfold cmpI; split <;> (try split) <;> omega))
  have CB := Lib.hid (@Cmp_at b a b1 b2 a1 a2 (-1) (by unfold cmpI; split <;> (try split) <;> omega))
  have V := Lib.hid (@Valid_at a a1 a2)
  have N := Lib.hid Next_at_top
  rw [← htop] at N
  have e1 : (a == b) = false := by simp; omega
  have e2 : (a < b) = False := by simp; omega
  have e3 : decide (a < b) = false := by simp; omega
  clear hab
  have htop' : (a == 2533359615) = true := by simpa using htop
  clear htop
  generalize atV a = p at *
  generalize atV b = q at *
  have S := Lib.hid sanity_any
  go_enter Tryz.func9, Tryz.ntmps9
  go_wp2_with fail
  refine (A.out _).mono ?_
  rintro e w1 ⟨rfl, hx⟩
  have X1 : Hid (Ext w w1) := Lib.hid (hx)
  clear hx
  have X := X1; clear X1
  go_wp2_with fail
  refine (B.out _).mono ?_
  rintro e w2 ⟨rfl, hx⟩
  have R2 : Rc w2 w1.heap.size p.1 p.2 := (rc_new w1 p.1 p.2 23).later hx
  have X2 : Hid (Ext w w2) := Lib.hid ((X.out.alloc _).trans hx)
  clear hx
  clear X
  have X := X2; clear X2
  have H2_0 := Lib.hid R2; clear R2
  have gx0 : ∀ ob, (w2.alloc ob).cell? ⟨w1.heap.size, 0, none⟩ = some (.int .i64 p.1) := fun ob => (H2_0.out.later ((Ext.refl _).alloc ob)).c0
  have gx1 : ∀ ob, (w2.alloc ob).cell? ⟨w1.heap.size, 1, none⟩ = some (.int .i64 p.2) := fun ob => (H2_0.out.later ((Ext.refl _).alloc ob)).c1
  go_wp2_with fail
  refine (I.out _).mono ?_
  rintro e w3 ⟨rfl, hx⟩
  have R3 : Rc w3 w2.heap.size q.1 q.2 := (rc_new w2 q.1 q.2 23).later hx
  have X3 : Hid (Ext w w3) := Lib.hid ((X.out.alloc _).trans hx)
  have Q3_0 : Rc w3 w1.heap.size p.1 p.2 := (H2_0.out.later ((Ext.refl _).alloc _)).later hx
  clear hx
  clear X
  have X := X3; clear X3
  have H3_0 := Lib.hid Q3_0; clear Q3_0
  have H3_1 := Lib.hid R3; clear R3
  clear gx0 gx1
  have cx0 := H3_0.out.c0; have cx1 := H3_0.out.c1
  have cy0 := H3_1.out.c0; have cy1 := H3_1.out.c1
  go_wp2_with fail
  refine (CA.out _).mono ?_
  rintro e w4 ⟨rfl, hx⟩
  have X4 : Hid (Ext w w4) := Lib.hid (X.out.trans hx)
  have Q4_0 : Rc w4 w1.heap.size p.1 p.2 := H3_0.out.later hx
  have Q4_1 : Rc w4 w2.heap.size q.1 q.2 := H3_1.out.later hx
  clear hx
  clear X
  have X := X4; clear X4
  have H4_0 := Lib.hid Q4_0; clear Q4_0
  have H4_1 := Lib.hid Q4_1; clear Q4_1
  clear cx0 cx1 cy0 cy1
  have cx0 := H4_0.out.c0; have cx1 := H4_0.out.c1
  have cy0 := H4_1.out.c0; have cy1 := H4_1.out.c1
  go_wp2_with fail
  refine (CB.out _).mono ?_
  rintro e w5 ⟨rfl, hx⟩
  have X5 : Hid (Ext w w5) := Lib.hid (X.out.trans hx)
  have Q5_0 : Rc w5 w1.heap.size p.1 p.2 := H4_0.out.later hx
  have Q5_1 : Rc w5 w2.heap.size q.1 q.2 := H4_1.out.later hx
  clear hx
  clear X
  have X := X5; clear X5
  have H5_0 := Lib.hid Q5_0; clear Q5_0
  have H5_1 := Lib.hid Q5_1; clear Q5_1
  clear cx0 cx1 cy0 cy1
  have cx0 := H5_0.out.c0; have cx1 := H5_0.out.c1
  go_wp2_with fail
  refine (N.out _).mono ?_
  rintro e w6 ⟨rfl, hx⟩
  have X6 : Hid (Ext w w6) := Lib.hid (X.out.trans hx)
  have Q6_0 : Rc w6 w1.heap.size p.1 p.2 := H5_0.out.later hx
  have Q6_1 : Rc w6 w2.heap.size q.1 q.2 := H5_1.out.later hx
  clear hx
  clear X
  have X := X6; clear X6
  have H6_0 := Lib.hid Q6_0; clear Q6_0
  have H6_1 := Lib.hid Q6_1; clear Q6_1
  clear cx0 cx1
  have gx0 : ∀ ob, (w6.alloc ob).cell? ⟨w1.heap.size, 0, none⟩ = some (.int .i64 p.1) := fun ob => (H6_0.out.later ((Ext.refl _).alloc ob)).c0
  have gx1 : ∀ ob, (w6.alloc ob).cell? ⟨w1.heap.size, 1, none⟩ = some (.int .i64 p.2) := fun ob => (H6_0.out.later ((Ext.refl _).alloc ob)).c1
  go_wp2_with fail
  refine (V.out _).mono ?_
  rintro e w7 ⟨rfl, hx⟩
  have R7 : Rc w7 w6.heap.size 0 0 := (rc_new w6 0 0 23).later hx
  have X7 : Hid (Ext w w7) := Lib.hid ((X.out.alloc _).trans hx)
  have Q7_0 : Rc w7 w1.heap.size p.1 p.2 := (H6_0.out.later ((Ext.refl _).alloc _)).later hx
  have Q7_1 : Rc w7 w2.heap.size q.1 q.2 := (H6_1.out.later ((Ext.refl _).alloc _)).later hx
  clear hx
  clear X
  have X := X7; clear X7
  have H7_0 := Lib.hid Q7_0; clear Q7_0
  have H7_1 := Lib.hid Q7_1; clear Q7_1
  have H7_2 := Lib.hid R7; clear R7
  clear gx0 gx1
  go_wp2_with fail
  refine (S.out _ (HT.out.later X.out)).mono ?_
  rintro e w8 ⟨rfl, hx⟩
  have X8 : Hid (Ext w w8) := Lib.hid (X.out.trans hx)
  have Q8_0 : Rc w8 w1.heap.size p.1 p.2 := H7_0.out.later hx
  have Q8_1 : Rc w8 w2.heap.size q.1 q.2 := H7_1.out.later hx
  have Q8_2 : Rc w8 w6.heap.size 0 0 := H7_2.out.later hx
  clear hx
  clear X
  have X := X8; clear X8
  have H8_0 := Lib.hid Q8_0; clear Q8_0
  have H8_1 := Lib.hid Q8_1; clear Q8_1
  have H8_2 := Lib.hid Q8_2; clear Q8_2
  go_wp2
  go_ret
  exact ⟨rfl, X.out⟩
end Go.Proofs.YtoeahfddnjbhbaaGreatDoor

namespace Go.Proofs.YtoeahfddnjbhbaaGreatDoor.realOrder
open Go.RowKit
theorem bd {i : Int} (h : (Lit.int .i64 i).wf = true) : -9223372036854775808 ≤ i ∧ i ≤ 9223372036854775807 := by
  simp only [Lit.wf, Bool.and_eq_true, decide_eq_true_eq] at h
  have e : IntKind.i64.min = -9223372036854775808 := by decide
  have e2 : IntKind.i64.max = 9223372036854775807 := by decide
  omega
theorem walk (a0 : Int) (w0 : (Lit.int .i64 a0).wf = true) (a1 : Int) (w1 : (Lit.int .i64 a1).wf = true) (w : World) (ht : Tb w) :
    Calls Tryz.prog 9 #[.int .i64 a0, .int .i64 a1] w fun e w' => e = .returned (.bool true) ∧ Ext w w' := by
  obtain ⟨i1, i2⟩ := bd w0
  obtain ⟨j1, j2⟩ := bd w1
  have A : ∀ i : Int, -2533359615 ≤ i.tmod 2533359616 ∧ i.tmod 2533359616 ≤ 2533359615 := fun i => by
    rcases Int.lt_or_le i 0 with h | h
    · have := Int.tmod_lt_of_pos (-i) (b := 2533359616) (by omega)
      have h2 := Int.tmod_nonneg (a := -i) 2533359616 (by omega)
      rw [Int.neg_tmod] at this h2
      omega
    · have := Int.tmod_lt_of_pos i (b := 2533359616) (by omega)
      have h2 := Int.tmod_nonneg (a := i) 2533359616 h
      omega
  obtain ⟨a1', a2'⟩ := A a0
  obtain ⟨b1', b2'⟩ := A a1
  rcases Int.lt_trichotomy (a0.tmod 2533359616) (a1.tmod 2533359616) with h | h | h
  · exact order_lt w ht a0 a1 i1 i2 j1 j2 _ _ rfl rfl a1' a2' b1' b2' h (by omega)
  · by_cases t : a0.tmod 2533359616 = 2533359615
    · exact order_eqt w ht a0 a1 i1 i2 j1 j2 _ _ rfl rfl a1' a2' b1' b2' h t
    · exact order_eq w ht a0 a1 i1 i2 j1 j2 _ _ rfl rfl a1' a2' b1' b2' h t
  · by_cases t : a0.tmod 2533359616 = 2533359615
    · exact order_gtt w ht a0 a1 i1 i2 j1 j2 _ _ rfl rfl a1' a2' b1' b2' h t
    · exact order_gt w ht a0 a1 i1 i2 j1 j2 _ _ rfl rfl a1' a2' b1' b2' h t
end Go.Proofs.YtoeahfddnjbhbaaGreatDoor.realOrder
