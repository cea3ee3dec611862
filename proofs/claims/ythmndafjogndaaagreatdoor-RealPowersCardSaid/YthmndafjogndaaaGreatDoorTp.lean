/- Layer 2: powers. -/
import Derived.Test.YthmndafjogndaaaGreatDoorTi
import Derived.Test.YthmndafjogndaaaGreatDoorGr
namespace Go.Proofs.YthmndafjogndaaaGreatDoor
open Go.RowKit

/-- A power by repeated rounding: with k rounds at most. -/
def powF (m x : Int) : Nat → Nat → Option (Int × Int)
  | 0, _ => some (8388608, -23)
  | k + 1, n => if n = 0 then some (8388608, -23) else if n % 2 = 1 then (powF m x k (n - 1)).bind fun q => (prodV m x q.1 q.2).rd else (powF m x k (n / 2)).bind fun q => (prodV q.1 q.2 q.1 q.2).rd
theorem rd_vd {m x n y : Int} (h : Vd m x) (k : Vd n y) {p : Int × Int} (e : (prodV m x n y).rd = some p) : Vd p.1 p.2 := by
  obtain ⟨r, _, b⟩ := prod_near h k
  rw [b] at e
  exact (resI_vd e).1
theorem powF_vd {m x : Int} (h : Vd m x) : ∀ k n p, powF m x k n = some p → Vd p.1 p.2
  | 0, _, p, e => by obtain rfl := Option.some.inj e; exact vd_one
  | k + 1, n, p, e => by
    unfold powF at e
    split at e
    · obtain rfl := Option.some.inj e; exact vd_one
    · split at e
      · obtain ⟨q, h1, h2⟩ := Option.bind_eq_some_iff.1 e
        exact rd_vd h (powF_vd h k _ q h1) h2
      · obtain ⟨q, h1, h2⟩ := Option.bind_eq_some_iff.1 e
        have := powF_vd h k _ q h1
        exact rd_vd this this h2
theorem vd_bd {m x : Int} (h : Vd m x) : (-150 ≤ x ∧ x ≤ 150) ∧ (-16777216 < m ∧ m < 16777216) := by
  obtain ⟨a, b, c, _⟩ := h
  omega

theorem fromInt_one (w : World) : Calls Tryz.prog 13 #[.int .i64 1] w fun e w' => e = .returned (.agg #[.int .i64 8388608, .int .i64 (-23)]) ∧ Ext w w' :=
  (fromInt_any 1 (by omega) (by omega) w).mono fun q w' ⟨k, hx⟩ => ⟨by rw [show (exV 1 0).rd = some (8388608, -23) by decide +kernel] at k; exact k, hx⟩
set_option maxHeartbeats 1000000 in
theorem power_zero (m x : Int) (w : World) : Calls Tryz.prog 77 #[.agg #[.int .i64 m, .int .i64 x], .int .u64 0] w fun e w' => e = .returned (.agg #[.int .i64 8388608, .int .i64 (-23)]) ∧ Ext w w' := by
  go_enter Tryz.func77, Tryz.ntmps77
  go_wp2_with fail
  refine (fromInt_one _).mono ?_
  rintro e w1 ⟨rfl, hx⟩
  have X : Hid (Ext w w1) := Lib.hid (Ext.trans (by repeat (first | with_reducible exact Ext.refl _ | with_reducible refine Ext.alloc ?_ _)) hx)
  have sz : w.heap.size + 1 + 1 ≤ w1.heap.size := by simpa using hx.size
  have c0 : w1.cell? ⟨w.heap.size + 1, 0, none⟩ = some (.int .i64 0) := (hx.cell 0 (by simp; try omega)).trans (by simp [go_sem])
  have c1 : w1.cell? ⟨w.heap.size + 1, 1, none⟩ = some (.int .i64 0) := (hx.cell 1 (by simp; try omega)).trans (by simp [go_sem])
  have f0 : ∀ j, w1.frozen? ⟨w.heap.size + 1, j, none⟩ = false := fun j => (hx.froz j (by simp)).trans (by simp [go_sem])
  clear hx
  go_wp2
  refine bodyPost_ret (v := .agg #[.int .i64 8388608, .int .i64 (-23)]) ?_ rfl ⟨rfl, ?_⟩
  · simp [results, Tryz.results77, go_sem, c0, c1]
  · exact (X.out.setCell (by simp; try omega) _).setCell (by simp; try omega) _
/-- The blocks of power: the argument's and the result's. -/
structure PwT (w : World) (m x : Int) (u : World) : Prop where
  e : Ext w u
  sz : w.heap.size + 1 < u.heap.size
  p0 : u.cell? ⟨w.heap.size, 0, none⟩ = some (.int .i64 m)
  p1 : u.cell? ⟨w.heap.size, 1, none⟩ = some (.int .i64 x)
  c0 : u.cell? ⟨w.heap.size + 1, 0, none⟩ = some (.int .i64 0)
  c1 : u.cell? ⟨w.heap.size + 1, 1, none⟩ = some (.int .i64 0)
  f0 : ∀ j, u.frozen? ⟨w.heap.size + 1, j, none⟩ = false
theorem PwT.later {w u v : World} {m x : Int} (h : PwT w m x u) (hx : Ext u v) : PwT w m x v := by
  have sz := h.sz
  exact ⟨h.e.trans hx, Nat.lt_of_lt_of_le h.sz hx.size, (hx.cell 0 (by omega)).trans h.p0, (hx.cell 1 (by omega)).trans h.p1,
    (hx.cell 0 (by omega)).trans h.c0, (hx.cell 1 (by omega)).trans h.c1, fun j => (hx.froz j (by omega)).trans (h.f0 j)⟩
theorem PwT.start (w : World) (m x : Int) : PwT w m x ((w.alloc (.cells #[.int .i64 m, .int .i64 x] 23)).alloc (.cells #[.int .i64 0, .int .i64 0] 23)) :=
  ⟨by repeat (first | with_reducible exact Ext.refl _ | with_reducible refine Ext.alloc ?_ _), by simp, by simp [go_sem], by simp [go_sem], by simp [go_sem], by simp [go_sem], fun j => by simp [go_sem]⟩
set_option maxRecDepth 100000 in
set_option maxHeartbeats 2000000 in
theorem power_odd_rec (m x n l : Int) (n0 : (n == 0) = false) (_n0' : ¬ n = 0) (n1 : n.tmod 2 = 1) (_n2 : n % 2 = 1) (hl : IntKind.u64.wrap (n - 1) = l) (HP : ∀ w, Calls Tryz.prog 77 #[.agg #[.int .i64 m, .int .i64 x], .int .u64 l] w fun e w' => e = RangePanic ∧ Ext w w') (w : World) : Calls Tryz.prog 77 #[.agg #[.int .i64 m, .int .i64 x], .int .u64 n] w fun e w' => e = RangePanic ∧ Ext w w' := by
  go_enter Tryz.func77, Tryz.ntmps77
  go_upto_region 4 with (fail)
  refine wp_region_S (PwT w m x) 7 (by kernel_rfl) ?_
  have HS := (PwT.start w m x).later (Ext.refl _).drew
  refine GoS.take (i := 0) (v := ?_) rfl (by kernel_rfl) (by kernel_rfl) (by kernel_rfl) (by kernel_rfl) (fun _ _ _ h => h) (Or.inl ⟨by rfl, ?hy1⟩) HS ?_
  case hy1 => ((intro u' hT; have d0 := hT.p0; have d1 := hT.p1; go_simp); try with_reducible rfl)
  try simp only [List.getElem_toArray, List.getElem_cons_zero, Act.put, List.setIfInBounds_toArray, List.set_cons_zero, List.set_cons_succ]
  refine GoS.take (i := 1) (v := ?_) rfl (by kernel_rfl) (by kernel_rfl) (by kernel_rfl) (by kernel_rfl) (fun _ _ _ h => h) (Or.inl ⟨by rfl, ?hy2⟩) HS ?_
  case hy2 => ((intro u' hT; have d0 := hT.p0; have d1 := hT.p1; go_simp); try with_reducible rfl)
  try simp only [List.getElem_toArray, List.getElem_cons_succ, List.getElem_cons_zero, Act.put, List.setIfInBounds_toArray, List.set_cons_zero, List.set_cons_succ]
  refine GoS.pure (i := 2) (v := ?_) rfl (by kernel_rfl) (by kernel_rfl) (by kernel_rfl) (by kernel_rfl) (fun _ _ _ h => h) (Or.inl ⟨by rfl, ?hy3⟩) (fun _ => HS) ?_
  case hy3 => ((intro u' hT; go_simp); try with_reducible rfl)
  try simp only [List.getElem_toArray, List.getElem_cons_succ, List.getElem_cons_zero, Act.put, List.setIfInBounds_toArray, List.set_cons_zero, List.set_cons_succ]
  refine GoS.pure (i := 3) (v := ?_) rfl (by kernel_rfl) (by kernel_rfl) (by kernel_rfl) (by kernel_rfl) (fun _ _ _ h => h) (Or.inl ⟨by rfl, ?hy4⟩) (fun _ => HS) ?_
  case hy4 => ((intro u' hT; go_simp); try with_reducible rfl)
  try simp only [List.getElem_toArray, List.getElem_cons_succ, List.getElem_cons_zero, Act.put, List.setIfInBounds_toArray, List.set_cons_zero, List.set_cons_succ]
  refine GoS.one (i := 4) (by kernel_rfl) rfl (fun K hK => ?_)
  go_simp
  (with_reducible refine (HP _).mono ?_)
  rintro e q5 ⟨rfl, hx5⟩
  exact ⟨rfl, rfl, HS.e.trans hx5⟩
set_option maxRecDepth 100000 in
set_option maxHeartbeats 2000000 in
theorem power_odd_rd (m x n l a b ex mn _rm _rx : Int) (ng mo : Bool) (n0 : (n == 0) = false) (_n0' : ¬ n = 0) (n1 : n.tmod 2 = 1) (_n2 : n % 2 = 1) (hl : IntKind.u64.wrap (n - 1) = l) (HP : ∀ w, Calls Tryz.prog 77 #[.agg #[.int .i64 m, .int .i64 x], .int .u64 l] w fun e w' => e = .returned (.agg #[.int .i64 a, .int .i64 b]) ∧ Ext w w') (HM : ∀ w, Calls Tryz.prog 68 #[.agg #[.int .i64 m, .int .i64 x], .agg #[.int .i64 a, .int .i64 b]] w fun e w' => e = .returned (.agg #[.bool ng, .int .u64 mn, .int .i64 ex, .bool mo]) ∧ Ext w w') (HR : ∀ w, Calls Tryz.prog 53 #[.agg #[.bool ng, .int .u64 mn, .int .i64 ex, .bool mo]] w fun e w' => e = RangePanic ∧ Ext w w') (w : World) : Calls Tryz.prog 77 #[.agg #[.int .i64 m, .int .i64 x], .int .u64 n] w fun e w' => e = RangePanic ∧ Ext w w' := by
  go_enter Tryz.func77, Tryz.ntmps77
  go_upto_region 4 with (fail)
  refine wp_region_S (PwT w m x) 7 (by kernel_rfl) ?_
  have HS := (PwT.start w m x).later (Ext.refl _).drew
  refine GoS.take (i := 0) (v := ?_) rfl (by kernel_rfl) (by kernel_rfl) (by kernel_rfl) (by kernel_rfl) (fun _ _ _ h => h) (Or.inl ⟨by rfl, ?hy1⟩) HS ?_
  case hy1 => ((intro u' hT; have d0 := hT.p0; have d1 := hT.p1; go_simp); try with_reducible rfl)
  try simp only [List.getElem_toArray, List.getElem_cons_zero, Act.put, List.setIfInBounds_toArray, List.set_cons_zero, List.set_cons_succ]
  refine GoS.take (i := 1) (v := ?_) rfl (by kernel_rfl) (by kernel_rfl) (by kernel_rfl) (by kernel_rfl) (fun _ _ _ h => h) (Or.inl ⟨by rfl, ?hy2⟩) HS ?_
  case hy2 => ((intro u' hT; have d0 := hT.p0; have d1 := hT.p1; go_simp); try with_reducible rfl)
  try simp only [List.getElem_toArray, List.getElem_cons_succ, List.getElem_cons_zero, Act.put, List.setIfInBounds_toArray, List.set_cons_zero, List.set_cons_succ]
  refine GoS.pure (i := 2) (v := ?_) rfl (by kernel_rfl) (by kernel_rfl) (by kernel_rfl) (by kernel_rfl) (fun _ _ _ h => h) (Or.inl ⟨by rfl, ?hy3⟩) (fun _ => HS) ?_
  case hy3 => ((intro u' hT; go_simp); try with_reducible rfl)
  try simp only [List.getElem_toArray, List.getElem_cons_succ, List.getElem_cons_zero, Act.put, List.setIfInBounds_toArray, List.set_cons_zero, List.set_cons_succ]
  refine GoS.pure (i := 3) (v := ?_) rfl (by kernel_rfl) (by kernel_rfl) (by kernel_rfl) (by kernel_rfl) (fun _ _ _ h => h) (Or.inl ⟨by rfl, ?hy4⟩) (fun _ => HS) ?_
  case hy4 => ((intro u' hT; go_simp); try with_reducible rfl)
  try simp only [List.getElem_toArray, List.getElem_cons_succ, List.getElem_cons_zero, Act.put, List.setIfInBounds_toArray, List.set_cons_zero, List.set_cons_succ]
  refine GoS.one (i := 4) (by kernel_rfl) rfl (fun K hK => ?_)
  go_simp
  (with_reducible refine (HP _).mono ?_)
  rintro e q5 ⟨rfl, hx5⟩
  have HS2 := HS.later hx5
  clear HS; have HS := HS2; clear HS2 hx5
  go_wp2_with fail
  refine hK.out _ _ HS (fun _ => ?_)
  clear hK K
  try simp only [List.getElem_toArray, List.getElem_cons_succ, List.getElem_cons_zero, Act.put, List.setIfInBounds_toArray, List.set_cons_zero, List.set_cons_succ]
  refine GoS.one (i := 5) (by kernel_rfl) rfl (fun K hK => ?_)
  go_simp
  (with_reducible refine (HM _).mono ?_)
  rintro e q6 ⟨rfl, hx6⟩
  have HS2 := HS.later hx6
  clear HS; have HS := HS2; clear HS2 hx6
  go_wp2_with fail
  refine hK.out _ _ HS (fun _ => ?_)
  clear hK K
  try simp only [List.getElem_toArray, List.getElem_cons_succ, List.getElem_cons_zero, Act.put, List.setIfInBounds_toArray, List.set_cons_zero, List.set_cons_succ]
  refine GoS.one (i := 6) (by kernel_rfl) rfl (fun K hK => ?_)
  go_simp
  (with_reducible refine (HR _).mono ?_)
  rintro e q7 ⟨rfl, hx7⟩
  exact ⟨rfl, rfl, HS.e.trans hx7⟩
set_option maxRecDepth 100000 in
set_option maxHeartbeats 2000000 in
theorem power_odd_ok (m x n l a b ex mn rm rx : Int) (ng mo : Bool) (n0 : (n == 0) = false) (_n0' : ¬ n = 0) (n1 : n.tmod 2 = 1) (_n2 : n % 2 = 1) (hl : IntKind.u64.wrap (n - 1) = l) (HP : ∀ w, Calls Tryz.prog 77 #[.agg #[.int .i64 m, .int .i64 x], .int .u64 l] w fun e w' => e = .returned (.agg #[.int .i64 a, .int .i64 b]) ∧ Ext w w') (HM : ∀ w, Calls Tryz.prog 68 #[.agg #[.int .i64 m, .int .i64 x], .agg #[.int .i64 a, .int .i64 b]] w fun e w' => e = .returned (.agg #[.bool ng, .int .u64 mn, .int .i64 ex, .bool mo]) ∧ Ext w w') (HR : ∀ w, Calls Tryz.prog 53 #[.agg #[.bool ng, .int .u64 mn, .int .i64 ex, .bool mo]] w fun e w' => e = .returned (.agg #[.int .i64 rm, .int .i64 rx]) ∧ Ext w w') (w : World) : Calls Tryz.prog 77 #[.agg #[.int .i64 m, .int .i64 x], .int .u64 n] w fun e w' => e = .returned (.agg #[.int .i64 rm, .int .i64 rx]) ∧ Ext w w' := by
  go_enter Tryz.func77, Tryz.ntmps77
  go_upto_region 4 with (fail)
  refine wp_region_S (PwT w m x) 7 (by kernel_rfl) ?_
  have HS := (PwT.start w m x).later (Ext.refl _).drew
  refine GoS.take (i := 0) (v := ?_) rfl (by kernel_rfl) (by kernel_rfl) (by kernel_rfl) (by kernel_rfl) (fun _ _ _ h => h) (Or.inl ⟨by rfl, ?hy1⟩) HS ?_
  case hy1 => ((intro u' hT; have d0 := hT.p0; have d1 := hT.p1; go_simp); try with_reducible rfl)
  try simp only [List.getElem_toArray, List.getElem_cons_zero, Act.put, List.setIfInBounds_toArray, List.set_cons_zero, List.set_cons_succ]
  refine GoS.take (i := 1) (v := ?_) rfl (by kernel_rfl) (by kernel_rfl) (by kernel_rfl) (by kernel_rfl) (fun _ _ _ h => h) (Or.inl ⟨by rfl, ?hy2⟩) HS ?_
  case hy2 => ((intro u' hT; have d0 := hT.p0; have d1 := hT.p1; go_simp); try with_reducible rfl)
  try simp only [List.getElem_toArray, List.getElem_cons_succ, List.getElem_cons_zero, Act.put, List.setIfInBounds_toArray, List.set_cons_zero, List.set_cons_succ]
  refine GoS.pure (i := 2) (v := ?_) rfl (by kernel_rfl) (by kernel_rfl) (by kernel_rfl) (by kernel_rfl) (fun _ _ _ h => h) (Or.inl ⟨by rfl, ?hy3⟩) (fun _ => HS) ?_
  case hy3 => ((intro u' hT; go_simp); try with_reducible rfl)
  try simp only [List.getElem_toArray, List.getElem_cons_succ, List.getElem_cons_zero, Act.put, List.setIfInBounds_toArray, List.set_cons_zero, List.set_cons_succ]
  refine GoS.pure (i := 3) (v := ?_) rfl (by kernel_rfl) (by kernel_rfl) (by kernel_rfl) (by kernel_rfl) (fun _ _ _ h => h) (Or.inl ⟨by rfl, ?hy4⟩) (fun _ => HS) ?_
  case hy4 => ((intro u' hT; go_simp); try with_reducible rfl)
  try simp only [List.getElem_toArray, List.getElem_cons_succ, List.getElem_cons_zero, Act.put, List.setIfInBounds_toArray, List.set_cons_zero, List.set_cons_succ]
  refine GoS.one (i := 4) (by kernel_rfl) rfl (fun K hK => ?_)
  go_simp
  (with_reducible refine (HP _).mono ?_)
  rintro e q5 ⟨rfl, hx5⟩
  have HS2 := HS.later hx5
  clear HS; have HS := HS2; clear HS2 hx5
  go_wp2_with fail
  refine hK.out _ _ HS (fun _ => ?_)
  clear hK K
  try simp only [List.getElem_toArray, List.getElem_cons_succ, List.getElem_cons_zero, Act.put, List.setIfInBounds_toArray, List.set_cons_zero, List.set_cons_succ]
  refine GoS.one (i := 5) (by kernel_rfl) rfl (fun K hK => ?_)
  go_simp
  (with_reducible refine (HM _).mono ?_)
  rintro e q6 ⟨rfl, hx6⟩
  have HS2 := HS.later hx6
  clear HS; have HS := HS2; clear HS2 hx6
  go_wp2_with fail
  refine hK.out _ _ HS (fun _ => ?_)
  clear hK K
  try simp only [List.getElem_toArray, List.getElem_cons_succ, List.getElem_cons_zero, Act.put, List.setIfInBounds_toArray, List.set_cons_zero, List.set_cons_succ]
  refine GoS.one (i := 6) (by kernel_rfl) rfl (fun K hK => ?_)
  go_simp
  (with_reducible refine (HR _).mono ?_)
  rintro e q7 ⟨rfl, hx7⟩
  have HS2 := HS.later hx7
  clear HS; have HS := HS2; clear HS2 hx7
  go_wp2_with fail
  refine hK.out _ _ HS (fun _ => ?_)
  clear hK K
  try simp only [List.getElem_toArray, List.getElem_cons_succ, List.getElem_cons_zero, Act.put, List.setIfInBounds_toArray, List.set_cons_zero, List.set_cons_succ]
  refine GoS.store (i := 7) (by kernel_rfl) rfl (by kernel_rfl) (fun K hK => ?_)
  have c0 := HS.c0
  have c1 := HS.c1
  have f0 := HS.f0
  go_simp
  refine hK.out _ _ ?_
  clear hK K
  try simp only [List.getElem_toArray, List.getElem_cons_succ, List.getElem_cons_zero, Act.put, List.setIfInBounds_toArray, List.set_cons_zero, List.set_cons_succ]
  refine GoS.done (by kernel_rfl) ?_
  have X := Lib.hid HS.e
  go_wp2
  refine bodyPost_ret (v := .agg #[.int .i64 rm, .int .i64 rx]) ?_ rfl ⟨rfl, ?_⟩
  · simp [results, Tryz.results77, go_sem, c0, c1]
  · exact (X.out.setCell (by simp; try omega) _).setCell (by simp; try omega) _
set_option maxRecDepth 100000 in
set_option maxHeartbeats 2000000 in
theorem power_even_rec (m x n l : Int) (n0 : (n == 0) = false) (_n0' : ¬ n = 0) (n1 : ¬ n.tmod 2 = 1) (n2 : ¬ n % 2 = 1) (hl : n.tdiv 2 = l) (hl' : n / 2 = l) (hl2 : IntKind.u64.wrap l = l) (HP : ∀ w, Calls Tryz.prog 77 #[.agg #[.int .i64 m, .int .i64 x], .int .u64 l] w fun e w' => e = RangePanic ∧ Ext w w') (w : World) : Calls Tryz.prog 77 #[.agg #[.int .i64 m, .int .i64 x], .int .u64 n] w fun e w' => e = RangePanic ∧ Ext w w' := by
  go_enter Tryz.func77, Tryz.ntmps77
  go_wp2_with fail
  refine (HP _).mono ?_
  rintro e w1 ⟨rfl, hx⟩
  have HS := (PwT.start w m x).later hx
  exact ⟨rfl, rfl, HS.e⟩
set_option maxRecDepth 100000 in
set_option maxHeartbeats 2000000 in
theorem power_even_rd (m x n l a b ex mn _rm _rx : Int) (ng mo : Bool) (n0 : (n == 0) = false) (_n0' : ¬ n = 0) (n1 : ¬ n.tmod 2 = 1) (n2 : ¬ n % 2 = 1) (hl : n.tdiv 2 = l) (hl' : n / 2 = l) (hl2 : IntKind.u64.wrap l = l) (HP : ∀ w, Calls Tryz.prog 77 #[.agg #[.int .i64 m, .int .i64 x], .int .u64 l] w fun e w' => e = .returned (.agg #[.int .i64 a, .int .i64 b]) ∧ Ext w w') (HM : ∀ w, Calls Tryz.prog 68 #[.agg #[.int .i64 a, .int .i64 b], .agg #[.int .i64 a, .int .i64 b]] w fun e w' => e = .returned (.agg #[.bool ng, .int .u64 mn, .int .i64 ex, .bool mo]) ∧ Ext w w') (HR : ∀ w, Calls Tryz.prog 53 #[.agg #[.bool ng, .int .u64 mn, .int .i64 ex, .bool mo]] w fun e w' => e = RangePanic ∧ Ext w w') (w : World) : Calls Tryz.prog 77 #[.agg #[.int .i64 m, .int .i64 x], .int .u64 n] w fun e w' => e = RangePanic ∧ Ext w w' := by
  go_enter Tryz.func77, Tryz.ntmps77
  go_wp2_with fail
  refine (HP _).mono ?_
  rintro e w1 ⟨rfl, hx⟩
  have HS := (PwT.start w m x).later hx
  clear hx
  go_wp2_with fail
  refine (HM _).mono ?_
  rintro e w2 ⟨rfl, hx⟩
  have HS2 := (HS.later ((Ext.refl _).alloc _)).later hx
  clear HS hx; have HS := HS2; clear HS2
  go_wp2_with fail
  refine (HR _).mono ?_
  rintro e w3 ⟨rfl, hx⟩
  have HS2 := HS.later hx
  clear HS hx; have HS := HS2; clear HS2
  exact ⟨rfl, rfl, HS.e⟩
set_option maxRecDepth 100000 in
set_option maxHeartbeats 2000000 in
theorem power_even_ok (m x n l a b ex mn rm rx : Int) (ng mo : Bool) (n0 : (n == 0) = false) (_n0' : ¬ n = 0) (n1 : ¬ n.tmod 2 = 1) (n2 : ¬ n % 2 = 1) (hl : n.tdiv 2 = l) (hl' : n / 2 = l) (hl2 : IntKind.u64.wrap l = l) (HP : ∀ w, Calls Tryz.prog 77 #[.agg #[.int .i64 m, .int .i64 x], .int .u64 l] w fun e w' => e = .returned (.agg #[.int .i64 a, .int .i64 b]) ∧ Ext w w') (HM : ∀ w, Calls Tryz.prog 68 #[.agg #[.int .i64 a, .int .i64 b], .agg #[.int .i64 a, .int .i64 b]] w fun e w' => e = .returned (.agg #[.bool ng, .int .u64 mn, .int .i64 ex, .bool mo]) ∧ Ext w w') (HR : ∀ w, Calls Tryz.prog 53 #[.agg #[.bool ng, .int .u64 mn, .int .i64 ex, .bool mo]] w fun e w' => e = .returned (.agg #[.int .i64 rm, .int .i64 rx]) ∧ Ext w w') (w : World) : Calls Tryz.prog 77 #[.agg #[.int .i64 m, .int .i64 x], .int .u64 n] w fun e w' => e = .returned (.agg #[.int .i64 rm, .int .i64 rx]) ∧ Ext w w' := by
  go_enter Tryz.func77, Tryz.ntmps77
  go_wp2_with fail
  refine (HP _).mono ?_
  rintro e w1 ⟨rfl, hx⟩
  have HS := (PwT.start w m x).later hx
  clear hx
  go_wp2_with fail
  refine (HM _).mono ?_
  rintro e w2 ⟨rfl, hx⟩
  have HS2 := (HS.later ((Ext.refl _).alloc _)).later hx
  clear HS hx; have HS := HS2; clear HS2
  go_wp2_with fail
  refine (HR _).mono ?_
  rintro e w3 ⟨rfl, hx⟩
  have HS2 := HS.later hx
  clear HS hx; have HS := HS2; clear HS2
  have c0 := HS.c0
  have c1 := HS.c1
  have f0 := HS.f0
  have X := Lib.hid HS.e
  clear HS
  go_wp2
  refine bodyPost_ret (v := .agg #[.int .i64 rm, .int .i64 rx]) ?_ rfl ⟨rfl, ?_⟩
  · simp [results, Tryz.results77, go_sem, c0, c1]
  · exact (X.out.setCell (by simp; try omega) _).setCell (by simp; try omega) _
theorem power_any {m x : Int} (h : Vd m x) : ∀ (k n : Nat), n ≤ k → n < 18446744073709551616 → ∀ w : World, Calls Tryz.prog 77 #[.agg #[.int .i64 m, .int .i64 x], .int .u64 n] w fun e w' => Ends (powF m x k n) e ∧ Ext w w'
  | 0, n, hk, _, w => by
    obtain rfl : n = 0 := by omega
    exact power_zero m x w
  | k + 1, n, hk, hn, w => by
    unfold powF
    by_cases n0 : n = 0
    · subst n0
      rw [if_pos rfl]; exact power_zero m x w
    have e0 : ((n : Int) == 0) = false := by simpa using n0
    have e0' : ¬ (n : Int) = 0 := by omega
    rw [if_neg n0]
    obtain ⟨⟨b1, b2⟩, b3, b4⟩ := vd_bd h
    by_cases n1 : n % 2 = 1
    · rw [if_pos n1]
      have t1 : (n : Int).tmod 2 = 1 := by rw [Int.tmod_eq_emod_of_nonneg (by omega)]; omega
      have t2 : (n : Int) % 2 = 1 := by omega
      have hl : IntKind.u64.wrap ((n : Int) - 1) = ((n - 1 : Nat) : Int) := by rw [show (n : Int) - 1 = ((n - 1 : Nat) : Int) by omega]; exact IntWalk.u64_in _ ⟨by omega, by omega⟩
      have HP := power_any h k (n - 1) (by omega) (by omega)
      have V := powF_vd h k (n - 1)
      cases e1 : powF m x k (n - 1) with
      | none => rw [e1] at HP; exact power_odd_rec m x n _ e0 e0' t1 t2 hl HP w
      | some p =>
        obtain ⟨a, b⟩ := p
        rw [e1] at HP
        obtain ⟨⟨c1, c2⟩, c3, c4⟩ := vd_bd (V _ e1)
        have HM := prod_any m x a b b1 b2 c1 c2 b3 b4 c3 c4
        obtain ⟨o1, o2, o3⟩ := prod_ok m x a b b1 b2 c1 c2 b3 b4 c3 c4
        have HR := rd_any (prodV m x a b) o1 o2 o3
        show Calls Tryz.prog _ _ w fun e w' => Ends (prodV m x a b).rd e ∧ Ext w w'
        cases e2 : (prodV m x a b).rd with
        | none => rw [e2] at HR; exact power_odd_rd m x n _ a b _ _ 0 0 _ _ e0 e0' t1 t2 hl HP HM HR w
        | some r => rw [e2] at HR; exact power_odd_ok m x n _ a b _ _ r.1 r.2 _ _ e0 e0' t1 t2 hl HP HM HR w
    · rw [if_neg n1]
      have t1 : ¬ (n : Int).tmod 2 = 1 := by rw [Int.tmod_eq_emod_of_nonneg (by omega)]; omega
      have t2 : ¬ (n : Int) % 2 = 1 := by omega
      have hl' : (n : Int) / 2 = ((n / 2 : Nat) : Int) := by omega
      have hl : (n : Int).tdiv 2 = ((n / 2 : Nat) : Int) := by rw [Int.tdiv_eq_ediv_of_nonneg (by omega)]; omega
      have hl2 : IntKind.u64.wrap ((n / 2 : Nat) : Int) = ((n / 2 : Nat) : Int) := IntWalk.u64_in _ ⟨by omega, by omega⟩
      have HP := power_any h k (n / 2) (by omega) (by omega)
      have V := powF_vd h k (n / 2)
      cases e1 : powF m x k (n / 2) with
      | none => rw [e1] at HP; exact power_even_rec m x n _ e0 e0' t1 t2 hl hl' hl2 HP w
      | some p =>
        obtain ⟨a, b⟩ := p
        rw [e1] at HP
        obtain ⟨⟨c1, c2⟩, c3, c4⟩ := vd_bd (V _ e1)
        have HM := prod_any a b a b c1 c2 c1 c2 c3 c4 c3 c4
        obtain ⟨o1, o2, o3⟩ := prod_ok a b a b c1 c2 c1 c2 c3 c4 c3 c4
        have HR := rd_any (prodV a b a b) o1 o2 o3
        show Calls Tryz.prog _ _ w fun e w' => Ends (prodV a b a b).rd e ∧ Ext w w'
        cases e2 : (prodV a b a b).rd with
        | none => rw [e2] at HR; exact power_even_rd m x n _ a b _ _ 0 0 _ _ e0 e0' t1 t2 hl hl' hl2 HP HM HR w
        | some r => rw [e2] at HR; exact power_even_ok m x n _ a b _ _ r.1 r.2 _ _ e0 e0' t1 t2 hl hl' hl2 HP HM HR w
end Go.Proofs.YthmndafjogndaaaGreatDoor
