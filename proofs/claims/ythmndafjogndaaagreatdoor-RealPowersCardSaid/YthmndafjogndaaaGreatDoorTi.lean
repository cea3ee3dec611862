/- Layer 2: the program's square root; comparisons of results. -/
import Derived.Test.YthmndafjogndaaaGreatDoorGr
namespace Go.Proofs.YthmndafjogndaaaGreatDoor
open Go.RowKit

/-- The bit that is tried with k bits left. -/
def bitN (k : Nat) : Nat := 2 ^ k / 2
theorem bit_succ (j : Nat) : bitN (j + 1) = 2 ^ j := by unfold bitN; rw [Nat.pow_succ]; omega
theorem sqF_yes {n j f B : Nat} (hB : 2 ^ j = B) (h : (f + B) * (f + B) ≤ n) : sqF n (j + 1) f = sqF n j (f + B) := by rw [sqF]; rw [hB, if_pos h]
theorem sqF_no {n j f B : Nat} (hB : 2 ^ j = B) (h : ¬ (f + B) * (f + B) ≤ n) : sqF n (j + 1) f = sqF n j f := by rw [sqF]; rw [hB, if_neg h]
set_option maxHeartbeats 4000000 in
theorem square_any (n : Nat) (_hn : n < 18446744073709551616) (w : World) : Calls Tryz.prog 100 #[.int .u64 n] w fun e w' => e = .returned (.int .u64 (sqV n : Nat)) ∧ w = w' := by
  go_enter Tryz.func100, Tryz.ntmps100
  go_wp2
  go_loop [3, 4] (fun v3 v4 => ∃ k f : Nat, k ≤ 32 ∧ v3 = .int .u64 (f : Int) ∧ v4 = .int .u64 (bitN k : Int) ∧ sqF n k f = sqV n ∧ f + 2 ^ k ≤ 4294967296) (fun _ b => (intOf b).toNat)
  case atStart => exact ⟨32, 0, by omega, rfl, rfl, rfl, by decide⟩
  case round =>
    obtain ⟨k, f, hk, rfl, rfl, hf, hb⟩ := hrel
    cases k with
    | zero =>
      have hf : f = sqV n := hf
      subst hf
      have e0 : bitN 0 = 0 := rfl
      rw [e0]
      go_wp2
      go_ret
      exact ⟨by simp, rfl⟩
    | succ j =>
      obtain ⟨B, hB⟩ : ∃ B, 2 ^ j = B := ⟨_, rfl⟩
      have b0 : 0 < B := by rw [← hB]; exact Nat.pow_pos (by omega)
      rw [Nat.pow_succ, hB] at hb
      have e1 : bitN (j + 1) = B := by rw [bit_succ, hB]
      have e2 : bitN j = B / 2 := by unfold bitN; rw [hB]
      rw [e1]
      have hC : (B : Int).tdiv 2 = ((B / 2 : Nat) : Int) := by rw [Int.tdiv_eq_ediv_of_nonneg (by omega)]; omega
      have hC' : (B : Int) / 2 = ((B / 2 : Nat) : Int) := by omega
      have y1 := @sqF_yes n j f B hB
      have y2 := @sqF_no n j f B hB
      obtain ⟨S, hS⟩ : ∃ S, f + B = S := ⟨_, rfl⟩
      have hb2 : S + B ≤ 4294967296 := by omega
      rw [hS] at y1 y2
      have wS : IntKind.u64.wrap ((f : Int) + (B : Int)) = (S : Int) := by rw [← hS]; exact IntWalk.u64_in _ ⟨by omega, by omega⟩
      obtain ⟨P, hP⟩ : ∃ P, S * S = P := ⟨_, rfl⟩
      have hP2 : P < 18446744073709551616 := by
        have := Nat.mul_le_mul (show S ≤ 4294967295 by omega) (show S ≤ 4294967295 by omega)
        omega
      have wP : IntKind.u64.wrap ((S : Int) * (S : Int)) = (P : Int) := by
        rw [show (S : Int) * (S : Int) = ((S * S : Nat) : Int) by simp, hP]; exact IntWalk.u64_in _ ⟨by omega, by omega⟩
      have wC : IntKind.u64.wrap ((B / 2 : Nat) : Int) = ((B / 2 : Nat) : Int) := IntWalk.u64_in _ ⟨by omega, by omega⟩
      rw [hP] at y1 y2
      have b0' : (B : Int) > 0 := by omega
      generalize hCC : B / 2 = C at *
      by_cases hle : P ≤ n
      · have hle' : (P : Int) ≤ (n : Int) := by omega
        have z1 := y1 hle
        rw [hf] at z1
        have HZ := Lib.hid z1
        have HE := Lib.hid e2
        have HB := Lib.hid hB
        clear y1 y2 z1 hf e1 e2 hB hP hS hP2
        go_wp2
        go_round
        case rel => exact ⟨j, S, by omega, rfl, by rw [HE.out], HZ.out.symm, by rw [HB.out]; omega⟩
        case measure => simp [intOf]; omega
      · have hle' : ¬ (P : Int) ≤ (n : Int) := by omega
        have z1 := y2 hle
        rw [hf] at z1
        have HZ := Lib.hid z1
        have HE := Lib.hid e2
        have HB := Lib.hid hB
        clear y1 y2 z1 hf e1 e2 hB hP hS hP2
        go_wp2
        go_round
        case rel => exact ⟨j, f, by omega, rfl, by rw [HE.out], HZ.out.symm, by rw [HB.out]; omega⟩
        case measure => simp [intOf]; omega
set_option maxHeartbeats 2000000 in
theorem root_even (m x L S D K R E PP : Int) (w : World) (hm : IntKind.u64.wrap m = m) (hl : ∀ w, Calls Tryz.prog 98 #[.int .u64 m] w fun e w' => e = .returned (.int .i64 L) ∧ w = w')
    (d1 : IntKind.i64.wrap (x - L) = D) (_d2 : wrap64 (x - L) = D) (hc : D.tmod 2 = 0) (hLS : L = S) (s0 : 0 ≤ S) (s1 : S ≤ 64) (hw : IntKind.u64.wrap (m * 2 ^ S.toNat) = K)
    (hq : ∀ w, Calls Tryz.prog 100 #[.int .u64 K] w fun e w' => e = .returned (.int .u64 R) ∧ w = w') (f3 : D.tdiv 2 = E) (f4 : IntKind.i64.wrap E = E) (_f5 : wrap64 E = E) (hp : IntKind.u64.wrap (R * R) = PP) :
    Calls Tryz.prog 72 #[.agg #[.int .i64 m, .int .i64 x]] w fun e w' => e = .returned (.agg #[.bool false, .int .u64 R, .int .i64 E, .bool (PP != K)]) ∧ Ext w w' := by
  subst hLS
  go_enter Tryz.func72, Tryz.ntmps72
  go_wp2_with (first | (go_at_call 98; refine (hl _).mono ?_; rintro e w' ⟨rfl, rfl⟩) | (go_at_call 100; refine (hq _).mono ?_; rintro e w' ⟨rfl, rfl⟩))
  refine bodyPost_ret (v := .agg #[.bool false, .int .u64 R, .int .i64 E, .bool (PP != K)]) ?_ rfl ⟨rfl, ?_⟩
  · simp [results, Tryz.results72, go_sem]
  · repeat (first | with_reducible exact Ext.refl _ | with_reducible refine Ext.alloc ?_ _ | with_reducible refine Ext.setCell ?_ (by simp) _)
set_option maxHeartbeats 2000000 in
theorem root_odd (m x L S D D2 K R E PP : Int) (w : World) (hm : IntKind.u64.wrap m = m) (hl : ∀ w, Calls Tryz.prog 98 #[.int .u64 m] w fun e w' => e = .returned (.int .i64 L) ∧ w = w')
    (d1 : IntKind.i64.wrap (x - L) = D) (_d2 : wrap64 (x - L) = D) (hc : ¬ D.tmod 2 = 0) (l1 : IntKind.i64.wrap (L - 1) = S) (l2 : wrap64 (L - 1) = S) (s0 : 0 ≤ S) (s1 : S ≤ 64) (hw : IntKind.u64.wrap (m * 2 ^ S.toNat) = K)
    (hq : ∀ w, Calls Tryz.prog 100 #[.int .u64 K] w fun e w' => e = .returned (.int .u64 R) ∧ w = w') (f1 : IntKind.i64.wrap (x - S) = D2) (_f2 : wrap64 (x - S) = D2) (f3 : D2.tdiv 2 = E) (f4 : IntKind.i64.wrap E = E) (_f5 : wrap64 E = E) (hp : IntKind.u64.wrap (R * R) = PP) :
    Calls Tryz.prog 72 #[.agg #[.int .i64 m, .int .i64 x]] w fun e w' => e = .returned (.agg #[.bool false, .int .u64 R, .int .i64 E, .bool (PP != K)]) ∧ Ext w w' := by
  go_enter Tryz.func72, Tryz.ntmps72
  go_wp2_with (first | (go_at_call 98; refine (hl _).mono ?_; rintro e w' ⟨rfl, rfl⟩) | (go_at_call 100; refine (hq _).mono ?_; rintro e w' ⟨rfl, rfl⟩))
  refine bodyPost_ret (v := .agg #[.bool false, .int .u64 R, .int .i64 E, .bool (PP != K)]) ?_ rfl ⟨rfl, ?_⟩
  · simp [results, Tryz.results72, go_sem]
  · repeat (first | with_reducible exact Ext.refl _ | with_reducible refine Ext.alloc ?_ _ | with_reducible refine Ext.setCell ?_ (by simp) _)
theorem root_any {m x : Int} (h : Vd m x) (h0 : 0 ≤ m) (w : World) :
    Calls Tryz.prog 72 #[.agg #[.int .i64 m, .int .i64 x]] w fun e w' => e = .returned (.agg #[.bool (rootV m x).neg, .int .u64 (rootV m x).man, .int .i64 (rootV m x).exp, .bool (rootV m x).more]) ∧ Ext w w' := by
  obtain ⟨M, rfl⟩ : ∃ M : Nat, m = M := ⟨m.toNat, by omega⟩
  have hM := h.1
  have hx := h.2
  obtain ⟨g1, g2⟩ := lz_ge (m := M) (by omega)
  obtain ⟨r1, r2, r3⟩ := rootSh_bd (m := M) x (by omega)
  have hsq : rootSq M x < 18446744073709551616 := by
    by_cases e : M = 0
    · subst e; rw [rootSq_zero]; omega
    · exact (rootSq_bd x e (by omega)).2
  have hr : sqV (rootSq M x) ≤ 4294967295 := sq_le (m := 18446744073709551615) (sq_spec hsq).1 (by omega) (by omega)
  have hrr : sqV (rootSq M x) * sqV (rootSq M x) < 18446744073709551616 := Nat.lt_of_le_of_lt (sq_spec hsq).1 hsq
  have hw : IntKind.u64.wrap ((M : Int) * 2 ^ ((rootSh M x : Nat) : Int).toNat) = ((rootSq M x : Nat) : Int) := by
    rw [Int.toNat_natCast, show (M : Int) * 2 ^ rootSh M x = ((rootSq M x : Nat) : Int) by unfold rootSq; simp]
    exact IntWalk.u64_in _ ⟨by omega, by omega⟩
  have hp : IntKind.u64.wrap (((sqV (rootSq M x) : Nat) : Int) * ((sqV (rootSq M x) : Nat) : Int)) = ((sqV (rootSq M x) * sqV (rootSq M x) : Nat) : Int) := by
    rw [show ((sqV (rootSq M x) : Nat) : Int) * ((sqV (rootSq M x) : Nat) : Int) = ((sqV (rootSq M x) * sqV (rootSq M x) : Nat) : Int) by simp]
    exact IntWalk.u64_in _ ⟨by omega, by omega⟩
  have f3 : (x - ((rootSh M x : Nat) : Int)).tdiv 2 = (x - rootSh M x) / 2 := by
    obtain ⟨q, hq⟩ : ∃ q, x - ((rootSh M x : Nat) : Int) = q * 2 := ⟨(x - rootSh M x) / 2, by omega⟩
    rw [hq, Int.mul_tdiv_cancel _ (by omega), Int.mul_ediv_cancel _ (by omega)]
  have bd : -1000 ≤ (x - ((rootSh M x : Nat) : Int)) / 2 ∧ (x - ((rootSh M x : Nat) : Int)) / 2 ≤ 1000 := by omega
  have fin : ∀ PK : Bool, PK = ((((sqV (rootSq M x) * sqV (rootSq M x) : Nat) : Int)) != ((rootSq M x : Nat) : Int)) → PK = (rootV (M : Int) x).more := fun PK e => by
    rw [e]; unfold rootV; simp only [Int.natAbs_natCast]
    rw [Bool.eq_iff_iff]; simp; omega
  by_cases c : (x - lzV M) % 2 = 0
  · have hS : rootSh M x = lzV M := by unfold rootSh; rw [if_pos c]
    have A := root_even (M : Int) x (lzV M : Nat) (rootSh M x : Nat) (x - lzV M) (rootSq M x : Nat) (sqV (rootSq M x) : Nat) ((x - (rootSh M x : Nat)) / 2) ((sqV (rootSq M x) * sqV (rootSq M x) : Nat) : Int) w
      (IntWalk.u64_in _ ⟨by omega, by omega⟩) (lz_any M (by omega)) (IntWalk.i64_in _ ⟨by omega, by omega⟩) (by unfold wrap64; omega) (by rw [Int.tmod_eq_emod]; split <;> omega) (by rw [hS]) (by omega) (by omega) hw (square_any _ hsq)
      (by rw [← hS]; exact f3) (IntWalk.i64_in _ ⟨by omega, by omega⟩) (by unfold wrap64; omega) hp
    refine A.mono fun e w' ⟨he, hx⟩ => ⟨?_, hx⟩
    rw [he, fin _ rfl]; rfl
  · have hS : rootSh M x = lzV M - 1 := by unfold rootSh; rw [if_neg c]
    have e1 : ((lzV M : Nat) : Int) - 1 = (rootSh M x : Nat) := by omega
    have A := root_odd (M : Int) x (lzV M : Nat) (rootSh M x : Nat) (x - lzV M) (x - (rootSh M x : Nat)) (rootSq M x : Nat) (sqV (rootSq M x) : Nat) ((x - (rootSh M x : Nat)) / 2) ((sqV (rootSq M x) * sqV (rootSq M x) : Nat) : Int) w
      (IntWalk.u64_in _ ⟨by omega, by omega⟩) (lz_any M (by omega)) (IntWalk.i64_in _ ⟨by omega, by omega⟩) (by unfold wrap64; omega) (by rw [Int.tmod_eq_emod]; split <;> omega)
      (by rw [e1]; exact IntWalk.i64_in _ ⟨by omega, by omega⟩) (by rw [e1]; unfold wrap64; omega) (by omega) (by omega) hw (square_any _ hsq)
      (IntWalk.i64_in _ ⟨by omega, by omega⟩) (by unfold wrap64; omega) f3 (IntWalk.i64_in _ ⟨by omega, by omega⟩) (by unfold wrap64; omega) hp
    refine A.mono fun e w' ⟨he, hx⟩ => ⟨?_, hx⟩
    rw [he, fin _ rfl]; rfl
theorem root_ok {m x : Int} (h : Vd m x) (_h0 : 0 ≤ m) : (rootV m x).man < 18446744073709551616 ∧ -1000000 ≤ (rootV m x).exp ∧ (rootV m x).exp ≤ 1000000 := by
  obtain ⟨r1, r2, r3⟩ := rootSh_bd (m := m.natAbs) x h.1
  have hx := h.2
  have hsq : rootSq m.natAbs x < 18446744073709551616 := by
    by_cases e : m.natAbs = 0
    · rw [e, rootSq_zero]; omega
    · exact (rootSq_bd x e h.1).2
  have hr : sqV (rootSq m.natAbs x) ≤ 4294967295 := sq_le (m := 18446744073709551615) (sq_spec hsq).1 (by omega) (by omega)
  unfold rootV
  simp only
  omega
set_option maxHeartbeats 1000000 in
theorem sqrt_closure (a : Ex) (r : Option (Int × Int)) (hr : r = a.rd) (m x : Int) (bp : Nat) (w : World)
    (p0 : ∀ ob, (w.alloc ob).cell? ⟨bp, 0, none⟩ = some (.int .i64 m)) (p1 : ∀ ob, (w.alloc ob).cell? ⟨bp, 1, none⟩ = some (.int .i64 x))
    (hm : a.man < 18446744073709551616) (he1 : -1000000 ≤ a.exp) (he2 : a.exp ≤ 1000000)
    (hop : ∀ w, Calls Tryz.prog 72 #[.agg #[.int .i64 m, .int .i64 x]] w fun e w' => e = .returned (.agg #[.bool (a).neg, .int .u64 (a).man, .int .i64 (a).exp, .bool (a).more]) ∧ Ext w w') :
    Calls Tryz.prog 71 #[.pointer (some ⟨bp, 0, none⟩)] w fun e w' => Ends r e ∧ Ext w w' := by
  have A := Lib.hid hop
  have B := Lib.hid (rd_any a hm he1 he2)
  rw [← hr] at B
  clear hop hm he1 he2 hr
  obtain ⟨neg, man, ex, more⟩ := a
  simp only at A B
  go_enter Tryz.func71, Tryz.ntmps71
  go_wp2_with fail
  refine (A.out _).mono ?_
  rintro e w1 ⟨rfl, hx1⟩
  clear p0 p1
  go_wp2_with fail
  refine (B.out _).mono ?_
  rintro e w2 ⟨hE, hx2⟩
  have hx := hx1.trans hx2
  have X := Lib.hid (((Ext.refl w).alloc _).trans hx)
  cases r with
  | none =>
    obtain rfl : e = RangePanic := hE
    exact ⟨rfl, rfl, X.out⟩
  | some p =>
    obtain ⟨m', x'⟩ := p
    obtain rfl : e = .returned (.agg #[.int .i64 m', .int .i64 x']) := hE
    have c0 : w2.cell? ⟨w.heap.size, 0, none⟩ = some (.int .i64 0) := (hx.cell 0 (by simp)).trans (by simp [go_sem])
    have c1 : w2.cell? ⟨w.heap.size, 1, none⟩ = some (.int .i64 0) := (hx.cell 1 (by simp)).trans (by simp [go_sem])
    have f0 : ∀ j, w2.frozen? ⟨w.heap.size, j, none⟩ = false := fun j => (hx.froz j (by simp)).trans (by simp [go_sem])
    clear hx hx1 hx2
    go_wp2
    refine bodyPost_ret (v := .agg #[.int .i64 m', .int .i64 x']) ?_ rfl ⟨rfl, ?_⟩
    · simp [results, Tryz.results71, go_sem, c0, c1]
    · exact (X.out.setCell (Nat.le_refl _) _).setCell (Nat.le_refl _) _
theorem sqrt_ent (args : Array Value) (w : World) : (callFunc 71 args).run Tryz.prog w = .ok (.enter 71 args) w :=
  ent_any Tryz.func71 (by kernel_rfl) rfl args w
theorem sqrt_guarded {m x : Int} (h : Vd m x) (h0 : 0 ≤ m) (bp : Nat) (u : World) (h1 : bp < u.heap.size) (p0 : u.cell? ⟨bp, 0, none⟩ = some (.int .i64 m)) (p1 : u.cell? ⟨bp, 1, none⟩ = some (.int .i64 x)) :
    Calls Tryz.prog 70 #[.func (.func 71) #[] #[.pointer (some ⟨bp, 0, none⟩)]] u fun e w' => e = .returned (.tuple #[.agg #[.int .i64 (sqrtV m x).1.1, .int .i64 (sqrtV m x).1.2], .int .i64 (sqrtV m x).2]) ∧ Ext u w' := by
  obtain ⟨a1, a2, a3⟩ := root_ok h h0
  exact guarded_any 71 _ (rootV m x).rd u sqrt_ent fun v hv => sqrt_closure (rootV m x) _ rfl m x bp v
    (fun ob => ((hv.alloc ob).cell 0 h1).trans p0) (fun ob => ((hv.alloc ob).cell 1 h1).trans p1) a1 a2 a3 (root_any h h0)
set_option maxHeartbeats 1000000 in
theorem Sqrt_neg {m x : Int} (h : Vd m x) (h0 : m < 0) (w : World) : Calls Tryz.prog 35 #[.agg #[.int .i64 m, .int .i64 x]] w fun e w' => e = .returned (.tuple #[.agg #[.int .i64 0, .int .i64 0], .int .i64 5]) ∧ Ext w w' := by
  have A := Lib.hid (valid_any m x)
  rw [vd_iff.2 h] at A
  go_enter Tryz.func35, Tryz.ntmps35
  go_wp2_with fail
  refine (A.out _).mono ?_
  rintro e w1 ⟨rfl, hx⟩
  have X : Hid (Ext w w1) := Lib.hid (Ext.trans (by repeat (first | with_reducible exact Ext.refl _ | with_reducible refine Ext.alloc ?_ _ | with_reducible refine Ext.setCell ?_ (by simp) _)) hx)
  have sz : w.heap.size + 1 + 1 ≤ w1.heap.size := by simpa using hx.size
  have p0 : w1.cell? ⟨w.heap.size, 0, none⟩ = some (.int .i64 m) := (hx.cell 0 (by simp; try omega)).trans (by simp [go_sem])
  have p1 : w1.cell? ⟨w.heap.size, 1, none⟩ = some (.int .i64 x) := (hx.cell 1 (by simp; try omega)).trans (by simp [go_sem])
  have c0 : w1.cell? ⟨w.heap.size + 1, 0, none⟩ = some (.int .i64 0) := (hx.cell 0 (by simp; try omega)).trans (by simp [go_sem])
  have c1 : w1.cell? ⟨w.heap.size + 1, 1, none⟩ = some (.int .i64 0) := (hx.cell 1 (by simp; try omega)).trans (by simp [go_sem])
  have f0 : ∀ j, w1.frozen? ⟨w.heap.size + 1, j, none⟩ = false := fun j => (hx.froz j (by simp)).trans (by simp [go_sem])
  clear hx
  go_wp2
  refine bodyPost_ret (v := .tuple #[.agg #[.int .i64 0, .int .i64 0], .int .i64 5]) ?_ rfl ⟨rfl, ?_⟩
  · simp [results, Tryz.results35, go_sem, c0, c1]
  · exact (X.out.setCell (by simp; try omega) _).setCell (by simp; try omega) _
set_option maxHeartbeats 1000000 in
theorem Sqrt_bad {m x : Int} (h : validV m x = false) (w : World) : Calls Tryz.prog 35 #[.agg #[.int .i64 m, .int .i64 x]] w fun e w' => e = .returned (.tuple #[.agg #[.int .i64 0, .int .i64 0], .int .i64 1]) ∧ Ext w w' := by
  have A := Lib.hid (valid_any m x)
  rw [h] at A
  go_enter Tryz.func35, Tryz.ntmps35
  go_wp2_with fail
  refine (A.out _).mono ?_
  rintro e w1 ⟨rfl, hx⟩
  have X : Hid (Ext w w1) := Lib.hid (Ext.trans (by repeat (first | with_reducible exact Ext.refl _ | with_reducible refine Ext.alloc ?_ _ | with_reducible refine Ext.setCell ?_ (by simp) _)) hx)
  have sz : w.heap.size + 1 + 1 ≤ w1.heap.size := by simpa using hx.size
  have p0 : w1.cell? ⟨w.heap.size, 0, none⟩ = some (.int .i64 m) := (hx.cell 0 (by simp; try omega)).trans (by simp [go_sem])
  have p1 : w1.cell? ⟨w.heap.size, 1, none⟩ = some (.int .i64 x) := (hx.cell 1 (by simp; try omega)).trans (by simp [go_sem])
  have c0 : w1.cell? ⟨w.heap.size + 1, 0, none⟩ = some (.int .i64 0) := (hx.cell 0 (by simp; try omega)).trans (by simp [go_sem])
  have c1 : w1.cell? ⟨w.heap.size + 1, 1, none⟩ = some (.int .i64 0) := (hx.cell 1 (by simp; try omega)).trans (by simp [go_sem])
  have f0 : ∀ j, w1.frozen? ⟨w.heap.size + 1, j, none⟩ = false := fun j => (hx.froz j (by simp)).trans (by simp [go_sem])
  clear hx
  go_wp2
  refine bodyPost_ret (v := .tuple #[.agg #[.int .i64 0, .int .i64 0], .int .i64 1]) ?_ rfl ⟨rfl, ?_⟩
  · simp [results, Tryz.results35, go_sem, c0, c1]
  · exact (X.out.setCell (by simp; try omega) _).setCell (by simp; try omega) _
set_option maxHeartbeats 1000000 in
theorem Sqrt_good {m x : Int} (h : Vd m x) (h0 : ¬ m < 0) (w : World) : Calls Tryz.prog 35 #[.agg #[.int .i64 m, .int .i64 x]] w fun e w' => e = .returned (.tuple #[.agg #[.int .i64 (sqrtV m x).1.1, .int .i64 (sqrtV m x).1.2], .int .i64 (sqrtV m x).2]) ∧ Ext w w' := by
  have A := Lib.hid (valid_any m x)
  rw [vd_iff.2 h] at A
  have GC := Lib.hid (fun bp u h1 p0 p1 => sqrt_guarded h (by omega) bp u h1 p0 p1)
  generalize sqrtV m x = r at *
  obtain ⟨⟨rm, rx⟩, re⟩ := r
  simp only at *
  have hmf : ∀ (fn : Fn) (first cap : Array Value) (w : World), (Instr.makeFunc fn first cap).run Tryz.prog w = .ok (.func fn first cap) w := fun _ _ _ _ => rfl
  go_enter Tryz.func35, Tryz.ntmps35
  go_wp2_with fail
  refine (A.out _).mono ?_
  rintro e w1 ⟨rfl, hx⟩
  have X : Hid (Ext w w1) := Lib.hid (Ext.trans (by repeat (first | with_reducible exact Ext.refl _ | with_reducible refine Ext.alloc ?_ _ | with_reducible refine Ext.setCell ?_ (by simp) _)) hx)
  have sz : w.heap.size + 1 + 1 ≤ w1.heap.size := by simpa using hx.size
  have p0 : w1.cell? ⟨w.heap.size, 0, none⟩ = some (.int .i64 m) := (hx.cell 0 (by simp; try omega)).trans (by simp [go_sem])
  have p1 : w1.cell? ⟨w.heap.size, 1, none⟩ = some (.int .i64 x) := (hx.cell 1 (by simp; try omega)).trans (by simp [go_sem])
  have c0 : w1.cell? ⟨w.heap.size + 1, 0, none⟩ = some (.int .i64 0) := (hx.cell 0 (by simp; try omega)).trans (by simp [go_sem])
  have c1 : w1.cell? ⟨w.heap.size + 1, 1, none⟩ = some (.int .i64 0) := (hx.cell 1 (by simp; try omega)).trans (by simp [go_sem])
  have f0 : ∀ j, w1.frozen? ⟨w.heap.size + 1, j, none⟩ = false := fun j => (hx.froz j (by simp)).trans (by simp [go_sem])
  clear hx
  go_wp2_with fail
  refine (GC.out w.heap.size w1 (by omega) p0 p1).mono ?_
  rintro e w2 ⟨rfl, hx⟩
  have X := Lib.hid (X.out.trans hx)
  have c0 := (hx.cell 0 (b := w.heap.size + 1) (by omega)).trans c0
  have c1 := (hx.cell 1 (b := w.heap.size + 1) (by omega)).trans c1
  have f0 : ∀ j, w2.frozen? ⟨w.heap.size + 1, j, none⟩ = false := fun j => (hx.froz j (by omega)).trans (f0 j)
  clear hx p0 p1
  go_wp2
  refine bodyPost_ret (v := .tuple #[.agg #[.int .i64 rm, .int .i64 rx], .int .i64 re]) ?_ rfl ⟨rfl, ?_⟩
  · simp [results, Tryz.results35, go_sem, c0, c1]
  · exact (X.out.setCell (by simp; try omega) _).setCell (by simp; try omega) _
end Go.Proofs.YthmndafjogndaaaGreatDoor
