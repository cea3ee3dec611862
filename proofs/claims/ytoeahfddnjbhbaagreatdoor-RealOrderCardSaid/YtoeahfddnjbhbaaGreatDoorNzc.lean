/- Layer 2: numeral.rounded in all cases, and Parse. -/
import Derived.Test.YtoeahfddnjbhbaaGreatDoorNzb
import Derived.Test.YtoeahfddnjbhbaaGreatDoorNt
import Derived.Outline
namespace Go.Proofs.YtoeahfddnjbhbaaGreatDoor
open Go.RowKit

theorem num_empty (neg : Bool) (sc : Int) (h1 : -20000 ≤ sc) (h2 : sc ≤ 20000) (w : World) :
    Calls Tryz.prog 96 #[.agg #[.bool neg, .string ⟨#[]⟩, .int .i64 sc]] w fun e w' => e = .returned (.agg #[.int .i64 0, .int .i64 0]) ∧ Ext w w' := by
  have zs : (⟨#[]⟩ : ByteArray).size = 0 := rfl
  have zl : (⟨#[]⟩ : ByteArray).toList = [] := by rw [Lib.toList_data]
  go_enter Tryz.func96, Tryz.ntmps96
  go_wp2
  refine bodyPost_ret (v := .agg #[.int .i64 0, .int .i64 0]) ?_ rfl ⟨rfl, ?_⟩
  · simp [results, Tryz.results96, go_sem]
  · repeat (first | with_reducible exact Ext.refl _ | with_reducible refine Ext.alloc ?_ _ | with_reducible refine Ext.setCell ?_ (by simp) _)

theorem num_low (neg : Bool) (d : ByteArray) (sc : Int) (hd : d.size ≤ 60) (h1 : -20000 ≤ sc) (h2 : sc ≤ 20000) (n1 : ¬ d.toList = []) (n2 : d.toList.isEmpty = false) (hp : (d.size : Int) + sc ≤ -46) (w : World) :
    Calls Tryz.prog 96 #[.agg #[.bool neg, .string d, .int .i64 sc]] w fun e w' => e = .returned (.agg #[.int .i64 0, .int .i64 0]) ∧ Ext w w' := by
  have b1 : (d.size : Int) ≤ 60 := by omega
  go_enter Tryz.func96, Tryz.ntmps96
  go_wp2
  refine bodyPost_ret (v := .agg #[.int .i64 0, .int .i64 0]) ?_ rfl ⟨rfl, ?_⟩
  · simp [results, Tryz.results96, go_sem]
  · repeat (first | with_reducible exact Ext.refl _ | with_reducible refine Ext.alloc ?_ _ | with_reducible refine Ext.setCell ?_ (by simp) _)

theorem num_high (neg : Bool) (d : ByteArray) (sc : Int) (hd : d.size ≤ 60) (h1 : -20000 ≤ sc) (h2 : sc ≤ 20000) (n1 : ¬ d.toList = []) (n2 : d.toList.isEmpty = false) (hp1 : ¬ (d.size : Int) + sc ≤ -46) (hp : 53 < (d.size : Int) + sc) (w : World) :
    Calls Tryz.prog 96 #[.agg #[.bool neg, .string d, .int .i64 sc]] w fun e w' => e = RangePanic ∧ Ext w w' := by
  have b1 : (d.size : Int) ≤ 60 := by omega
  go_enter Tryz.func96, Tryz.ntmps96
  go_wp2
  all_goals (refine And.intro rfl (And.intro rfl ?_); repeat (first | with_reducible exact Ext.refl _ | with_reducible refine Ext.alloc ?_ _ | with_reducible refine Ext.setCell ?_ (by simp) _))

theorem bs_emp {l : List UInt8} (h : l ≠ []) : ¬ (bs l).toList = [] ∧ (bs l).toList.isEmpty = false := by
  rw [bs_toList]; exact ⟨h, by cases l with | nil => exact absurd rfl h | cons a r => rfl⟩
theorem num_any (n : Num) (hd : n.digits.length ≤ 60) (hdig : n.digits.all isDg = true) (h1 : -20000 ≤ n.scale) (h2 : n.scale ≤ 20000) (w : World) (ht : PowR w) :
    Calls Tryz.prog 96 #[.agg #[.bool n.neg, .string (bs n.digits), .int .i64 n.scale]] w fun e w' => Ends (numV n) e ∧ Ext w w' := by
  obtain ⟨neg, ds, sc⟩ := n
  simp only at *
  have hz : (bs ds).size = ds.length := rfl
  by_cases h0 : ds = []
  · subst h0
    have hv : numV ⟨neg, [], sc⟩ = some (0, 0) := by unfold numV; simp
    rw [hv]
    exact num_empty neg sc h1 h2 w
  obtain ⟨n1, n2⟩ := bs_emp h0
  by_cases hp1 : (ds.length : Int) + sc ≤ -46
  · have hv : numV ⟨neg, ds, sc⟩ = some (0, 0) := by unfold numV; simp only; rw [if_pos (Or.inr hp1)]
    rw [hv]
    exact num_low neg (bs ds) sc hd h1 h2 n1 n2 (by rw [hz]; exact hp1) w
  by_cases hp2 : 53 < (ds.length : Int) + sc
  · have hv : numV ⟨neg, ds, sc⟩ = none := by
      unfold numV; simp only; rw [if_neg (by intro h; rcases h with h | h; exact h0 h; exact hp1 h), if_pos hp2]
    rw [hv]
    exact num_high neg (bs ds) sc hd h1 h2 n1 n2 (by rw [hz]; exact hp1) (by rw [hz]; exact hp2) w
  · exact num_main neg (bs ds) sc _ (by rw [bs_list]) (by rw [hz]; exact List.length_pos_iff.2 h0) hd (by rw [bs_list]; exact hdig) h1 h2 n1 n2 (by rw [hz]; exact hp1) (by rw [hz]; exact hp2) w ht

/-! ### What is read is a number's digits -/
theorem drop_all {p : UInt8 → Bool} {q : UInt8 → Bool} : ∀ {l : List UInt8}, l.all q = true → (l.dropWhile p).all q = true
  | [], h => h
  | a :: r, h => by
    rw [List.dropWhile_cons]
    split
    · exact drop_all (by simp at h ⊢; exact h.2)
    · exact h
theorem tail_ok {neg : Bool} {dd : List UInt8} {sc : Int} {s : List UInt8} {n : Num} (h : tailV neg dd sc s = some n) (hd : dd.all isDg = true) (h1 : -60 ≤ sc) (h2 : sc ≤ 60) :
    n.digits.length ≤ dd.length ∧ n.digits.all isDg = true ∧ -20000 ≤ n.scale ∧ n.scale ≤ 20000 := by
  unfold tailV at h
  simp only at h
  have key : ∀ e : Int, -10000 ≤ e → e ≤ 10000 → (numOf neg dd (sc + e)).digits.length ≤ dd.length ∧ (numOf neg dd (sc + e)).digits.all isDg = true ∧ -20000 ≤ (numOf neg dd (sc + e)).scale ∧ (numOf neg dd (sc + e)).scale ≤ 20000 := by
    intro e he1 he2
    refine ⟨drop_le _ _, drop_all hd, ?_, ?_⟩ <;> (simp only [numOf]; omega)
  cases hc : (cut1 101 s).2 with
  | true =>
    rw [hc] at h
    simp only [if_true] at h
    cases he : expV (cut1 101 s).1 with
    | none => rw [he] at h; cases h
    | some e =>
      rw [he] at h
      cases h
      obtain ⟨q1, q2⟩ := expV_bd he
      exact key e q1 q2
  | false =>
    rw [hc] at h
    simp only [Bool.false_eq_true, if_false] at h
    split at h
    · cases h
      have := key 0 (by omega) (by omega)
      rw [Int.add_zero] at this
      exact this
    · cases h
theorem readV_ok {s : List UInt8} {n : Num} (h : readV s = some n) :
    n.digits.length ≤ 60 ∧ n.digits.all isDg = true ∧ -20000 ≤ n.scale ∧ n.scale ≤ 20000 := by
  unfold readV at h
  simp only at h
  by_cases hl : 60 < s.length
  · rw [if_pos hl] at h; cases h
  rw [if_neg hl] at h
  by_cases hd : digs (cut1 45 s).1 = []
  · rw [if_pos hd] at h; cases h
  rw [if_neg hd] at h
  have l1 := cut1_le 45 s
  have l2 := digs_len (cut1 45 s).1
  have l3 := cut1_le 46 (rest (cut1 45 s).1)
  have l4 := digs_len (cut1 46 (rest (cut1 45 s).1)).1
  have a1 := digs_all (cut1 45 s).1
  have a2 := digs_all (cut1 46 (rest (cut1 45 s).1)).1
  cases hp : (cut1 46 (rest (cut1 45 s).1)).2 with
  | false =>
    rw [hp] at h
    simp only [Bool.false_eq_true, if_false] at h
    have := tail_ok h a1 (by omega) (by omega)
    exact ⟨by omega, this.2⟩
  | true =>
    rw [hp] at h
    simp only [if_true] at h
    by_cases hf : digs (cut1 46 (rest (cut1 45 s).1)).1 = []
    · rw [if_pos hf] at h; cases h
    rw [if_neg hf] at h
    have := tail_ok h (by rw [List.all_append, a1, a2]; rfl) (by omega) (by omega)
    rw [List.length_append] at this
    exact ⟨by omega, this.2⟩

/-! ### Parse -/
set_option maxHeartbeats 1000000 in
theorem parse_bad (s : List UInt8) (ng : Bool) (ds : ByteArray) (sc : Int) (w : World)
    (R : ∀ w, Calls Tryz.prog 95 #[.string (bs s)] w fun e w' => e = .returned (.tuple #[.agg #[.bool ng, .string ds, .int .i64 sc], .bool false]) ∧ Ext w w') :
    Calls Tryz.prog 52 #[.string (bs s)] w fun e w' => e = .returned (.tuple #[.agg #[.int .i64 0, .int .i64 0], .int .i64 7]) ∧ Ext w w' := by
  have HR := Lib.hid R
  clear R
  go_enter Tryz.func52, Tryz.ntmps52
  go_wp2_with fail
  refine (HR.out _).mono ?_
  rintro e w1 ⟨rfl, hx⟩
  have X := Lib.hid (((Ext.refl w).alloc _).trans hx)
  have sz : w.heap.size + 1 ≤ w1.heap.size := by simpa using hx.size
  have c0 : ∀ ob, (w1.alloc ob).cell? ⟨w.heap.size, 0, none⟩ = some (.int .i64 0) := fun ob => ((hx.alloc ob).cell 0 (by simp)).trans (by simp [go_sem])
  have c1 : ∀ ob, (w1.alloc ob).cell? ⟨w.heap.size, 1, none⟩ = some (.int .i64 0) := fun ob => ((hx.alloc ob).cell 1 (by simp)).trans (by simp [go_sem])
  have f0 : ∀ ob j, (w1.alloc ob).frozen? ⟨w.heap.size, j, none⟩ = false := fun ob j => ((hx.alloc ob).froz j (by simp)).trans (by simp [go_sem])
  clear hx
  go_wp2
  refine bodyPost_ret (v := .tuple #[.agg #[.int .i64 0, .int .i64 0], .int .i64 7]) ?_ rfl ⟨rfl, ?_⟩
  · simp [results, Tryz.results52, go_sem, c0, c1]
  · exact ((X.out.alloc _).setCell (Nat.le_refl _) _).setCell (Nat.le_refl _) _

theorem ent_any {f : FuncId} {fn : Func} {c : Code} (hf : Tryz.prog.funcs[f]? = some fn) (hname : (fn.name == "runtime.NumGoroutine") = false) (hb : fn.body = some c) (args : Array Value) (w : World) :
    (callFunc f args).run Tryz.prog w = .ok (.enter f args) w := by
  have h1 : fn.name ≠ "runtime.NumGoroutine" := by simpa using hname
  simp [callFunc, hf, h1, hb]
theorem num_ent (args : Array Value) (w : World) : (callFunc 96 args).run Tryz.prog w = .ok (.enter 96 args) w :=
  ent_any Tryz.func96 (by kernel_rfl) rfl args w
set_option maxHeartbeats 1000000 in
theorem parse_good (s : List UInt8) (n : Num) (hd : n.digits.length ≤ 60) (hdig : n.digits.all isDg = true) (h1 : -20000 ≤ n.scale) (h2 : n.scale ≤ 20000) (w : World) (ht : PowR w)
    (R : ∀ w, Calls Tryz.prog 95 #[.string (bs s)] w fun e w' => e = .returned (.tuple #[.agg #[.bool n.neg, .string (bs n.digits), .int .i64 n.scale], .bool true]) ∧ Ext w w') :
    Calls Tryz.prog 52 #[.string (bs s)] w fun e w' => e = .returned (.tuple #[.agg #[.int .i64 (okV (numV n)).1, .int .i64 (okV (numV n)).2], .int .i64 (okE (numV n))]) ∧ Ext w w' := by
  have G : ∀ u, Ext w u → Calls Tryz.prog 82 #[.func (.func 96) #[.agg #[.bool n.neg, .string (bs n.digits), .int .i64 n.scale]] #[]] u fun e w' => e = .returned (.tuple #[.agg #[.int .i64 (okV (numV n)).1, .int .i64 (okV (numV n)).2], .int .i64 (okE (numV n))]) ∧ Ext u w' :=
    fun u hu => guarded1_any _ _ _ u num_ent (fun v hv => num_any n hd hdig h1 h2 v (ht.later (hu.trans hv)))
  obtain ⟨neg, digits, scale⟩ := n
  simp only at *
  generalize okV (numV ⟨neg, digits, scale⟩) = ov at *
  generalize okE (numV ⟨neg, digits, scale⟩) = oe at *
  generalize bs digits = ds at *
  have HR := Lib.hid R
  have HG := Lib.hid G
  clear R G hdig hd ht
  go_enter Tryz.func52, Tryz.ntmps52
  go_wp2_with fail
  refine (HR.out _).mono ?_
  rintro e w1 ⟨rfl, hx⟩
  have X := Lib.hid (((Ext.refl w).alloc _).trans hx)
  have sz : w.heap.size + 1 ≤ w1.heap.size := by simpa using hx.size
  have C0 : Hid (∀ ob, (w1.alloc ob).cell? ⟨w.heap.size, 0, none⟩ = some (.int .i64 0)) := Lib.hid fun ob => ((hx.alloc ob).cell 0 (by simp)).trans (by simp [go_sem])
  have C1 : Hid (∀ ob, (w1.alloc ob).cell? ⟨w.heap.size, 1, none⟩ = some (.int .i64 0)) := Lib.hid fun ob => ((hx.alloc ob).cell 1 (by simp)).trans (by simp [go_sem])
  have f0 : ∀ ob j, (w1.alloc ob).frozen? ⟨w.heap.size, j, none⟩ = false := fun ob j => ((hx.alloc ob).froz j (by simp)).trans (by simp [go_sem])
  clear hx
  go_wp2_with fail
  refine (HG.out _ (X.out.alloc _)).mono ?_
  rintro e w2 ⟨rfl, hx⟩
  have X2 := Lib.hid ((X.out.alloc _).trans hx)
  have c0 : w2.cell? ⟨w.heap.size, 0, none⟩ = some (.int .i64 0) := (hx.cell 0 (by simp; omega)).trans (C0.out _)
  have c1 : w2.cell? ⟨w.heap.size, 1, none⟩ = some (.int .i64 0) := (hx.cell 1 (by simp; omega)).trans (C1.out _)
  have g0 : ∀ j, w2.frozen? ⟨w.heap.size, j, none⟩ = false := fun j => (hx.froz j (by simp; omega)).trans (f0 _ j)
  clear hx C0 C1 f0
  go_wp2
  refine bodyPost_ret (v := .tuple #[.agg #[.int .i64 ov.1, .int .i64 ov.2], .int .i64 oe]) ?_ rfl ⟨rfl, ?_⟩
  · simp [results, Tryz.results52, go_sem, c0, c1]
  · exact (X2.out.setCell (Nat.le_refl _) _).setCell (Nat.le_refl _) _

/-- Parse of a string. -/
theorem parse_any (s : List UInt8) (hl : s.length ≤ 9223372036854775807) (w : World) (ht : PowR w) :
    Calls Tryz.prog 52 #[.string (bs s)] w fun e w' => e = .returned (.tuple #[.agg #[.int .i64 (rparseV s).1, .int .i64 (rparseV s).2], .int .i64 (rparseE s)]) ∧ Ext w w' := by
  by_cases hs : 60 < s.length
  · have hr : readV s = none := by unfold readV; rw [if_pos hs]
    unfold rparseV rparseE
    rw [hr]
    exact parse_bad s false ⟨#[]⟩ 0 w (fun w => read_long s hs hl w)
  have hs' : s.length ≤ 60 := by omega
  obtain ⟨g1, g2⟩ := readG_readV hs'
  have R := fun w => read_any s hs' w
  unfold rparseV rparseE
  cases hr : readV s with
  | none =>
    rw [hr] at g1
    rw [show (readG s).ok = false from g1.symm] at R
    exact parse_bad s _ _ _ w R
  | some n =>
    rw [hr] at g1
    rw [show (readG s).ok = true from g1.symm, g2 n hr] at R
    obtain ⟨h1, h2, h3, h4⟩ := readV_ok hr
    exact parse_good s n h1 h2 h3 h4 w ht R
end Go.Proofs.YtoeahfddnjbhbaaGreatDoor
