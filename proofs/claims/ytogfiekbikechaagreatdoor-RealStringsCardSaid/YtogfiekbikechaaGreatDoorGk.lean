/- Layer 2: the quotient of two reals. -/
/- Layer 2: Div. -/
/- Layer 2: Pow where there is no power. -/
/- Layer 2: a point between two strings of digits. -/
/- Layer 2: what Print gives, as plain functions (no program here); sanity's texts by these functions. -/
/-
  DERIVED: THE SHELF's CONTRACTS AT THIS DUMP, IN PLAIN WORDS (tools/lay-plain.mjs out of 'YtogfiekbikechaaGreatDoorSrTmp.lean', which tools/lay-shelf.mjs wrote): THE SAME DECLARATIONS UNDER THE SAME NAMES: 'import', 'namespace', 'open', 'def', 'theorem' AND NOTHING ELSE: no command of the shelf's: FOR A HAND-IN. Each laying: the table of numbers ('.._ren') and one theorem, a field a fact of the dump's own or the kernel's comparison; each contract: ONE APPLICATION.
-/
import Derived.Test.YtogfiekbikechaaGreatDoorGj
import Derived.Test.YtogfiekbikechaaGreatDoorGg
import Derived.Test.YtogfiekbikechaaGreatDoorGe
import Derived.Test.YtogfiekbikechaaGreatDoorGa
import Derived.Test.YtogfiekbikechaaGreatDoorProg
import Derived.Shelf.Strings.Repeat
import Derived.Shelf.Strings.BuilderX
import Derived.Shelf.Strconv.Itoa3
namespace Go.Proofs.YtogfiekbikechaaGreatDoor
open Go.RowKit

theorem lz_any (x : Nat) (h : x < 18446744073709551616) (w : World) :
    Calls Tryz.prog 98 #[.int .u64 x] w fun e w' => e = .returned (.int .i64 (lzV x : Nat)) ∧ w = w' :=
  (Tryz.bits_LeadingZeros64 x w (by omega) (by omega)).mono fun e w' ⟨h1, h2⟩ => ⟨by
    have h3 := nb_le64 h
    rw [h1]
    simp only [Int.toNat_natCast, nb_bitLen h]
    unfold lzV
    rw [show (((64 - nb x : Nat)) : Int) = 64 - (nb x : Int) by omega], h2.symm⟩
theorem lz_lt {x : Nat} (h : x < 18446744073709551616) : x * 2 ^ lzV x < 18446744073709551616 := by
  unfold lzV
  by_cases h0 : x = 0
  · subst h0; simp
  obtain ⟨_, _, h3⟩ := nb_lo h0
  have h4 := nb_le64 h
  have h5 : x * 2 ^ (64 - nb x) < 2 ^ nb x * 2 ^ (64 - nb x) := Nat.mul_lt_mul_of_pos_right h3 (Nat.two_pow_pos _)
  rw [← Nat.pow_add, show nb x + (64 - nb x) = 64 by omega] at h5
  exact h5
theorem quot_any (m x n y : Int) (hn : n ≠ 0) (b1 : -150 ≤ x) (b2 : x ≤ 150) (b3 : -150 ≤ y) (b4 : y ≤ 150) (c1 : -16777216 < m) (c2 : m < 16777216) (c3 : -16777216 < n) (c4 : n < 16777216) (w : World) :
    Calls Tryz.prog 69 #[.agg #[.int .i64 m, .int .i64 x], .agg #[.int .i64 n, .int .i64 y]] w fun e w' =>
      e = .returned (.agg #[.bool (quotV m x n y).neg, .int .u64 (quotV m x n y).man, .int .i64 (quotV m x n y).exp, .bool (quotV m x n y).more]) ∧ Ext w w' := by
  have hm64 : m.natAbs < 18446744073709551616 := by omega
  have hK := lz_lt hm64
  have hS : lzV m.natAbs ≤ 64 := by unfold lzV; omega
  have Q := quot_w m x n y (decide (m < 0)) (decide (n < 0)) m.natAbs n.natAbs (m.natAbs * 2 ^ lzV m.natAbs) (lzV m.natAbs : Nat) b1 b2 b3 b4 (by omega) (by omega)
    (by rw [beq_eq_false_iff_ne]; omega) (by omega) (by omega) (by omega) (by omega)
    (by rw [Int.toNat_natCast]
        have e : ((m.natAbs : Nat) : Int) * 2 ^ lzV m.natAbs = ((m.natAbs * 2 ^ lzV m.natAbs : Nat) : Int) := by simp
        rw [e]; exact IntWalk.u64_in _ ⟨by omega, by omega⟩) w
    (lz_any _ hm64) (fun w => exactly_any m x (by omega) (by omega) w) (fun w => exactly_any n y (by omega) (by omega) w)
  refine Q.mono ?_
  rintro e w' ⟨rfl, hx⟩
  refine ⟨?_, hx⟩
  have e1 : ((m.natAbs * 2 ^ lzV m.natAbs : Nat) : Int) / (n.natAbs : Int) = ((m.natAbs * 2 ^ lzV m.natAbs / n.natAbs : Nat) : Int) := (Int.natCast_ediv _ _).symm
  have e2 : (((m.natAbs * 2 ^ lzV m.natAbs : Nat) : Int) % (n.natAbs : Int) != 0) = decide (m.natAbs * 2 ^ lzV m.natAbs % n.natAbs ≠ 0) := by
    rw [← Int.natCast_emod]
    generalize m.natAbs * 2 ^ lzV m.natAbs % n.natAbs = r
    rw [Bool.eq_iff_iff]; simp
  rw [e1, e2]
  rfl
theorem quot_ok (m x n y : Int) (_hn : n ≠ 0) (b1 : -150 ≤ x) (b2 : x ≤ 150) (b3 : -150 ≤ y) (b4 : y ≤ 150) (c1 : -16777216 < m) (c2 : m < 16777216) :
    (quotV m x n y).man < 18446744073709551616 ∧ -1000000 ≤ (quotV m x n y).exp ∧ (quotV m x n y).exp ≤ 1000000 := by
  have hm64 : m.natAbs < 18446744073709551616 := by omega
  have hK := lz_lt hm64
  have hS : lzV m.natAbs ≤ 64 := by unfold lzV; omega
  refine ⟨Nat.lt_of_le_of_lt (Nat.div_le_self _ _) hK, ?_, ?_⟩ <;> (simp only [quotV]; omega)
theorem quot_ent (args : Array Value) (w : World) : (callFunc 69 args).run Tryz.prog w = .ok (.enter 69 args) w :=
  ent_any Tryz.func69 (by kernel_rfl) rfl args w
theorem div_comb (m x n y : Int) (hn : n ≠ 0) (w : World) :
    Calls Tryz.prog 62 #[.agg #[.int .i64 m, .int .i64 x], .agg #[.int .i64 n, .int .i64 y], .func (.func 69) #[] #[]] w fun e w' =>
      e = .returned (.tuple #[.agg #[.int .i64 (combV m x n y (quotV m x n y)).1.1, .int .i64 (combV m x n y (quotV m x n y)).1.2], .int .i64 (combV m x n y (quotV m x n y)).2]) ∧ Ext w w' :=
  combined_any 69 (quotV m x n y) m x n y w quot_ent fun h => by
    obtain ⟨⟨b1, b2, b3, b4⟩, c1, c2, c3, c4⟩ := both_bd h
    exact ⟨quot_ok m x n y hn b1 b2 b3 b4 c1 c2, fun w => quot_any m x n y hn b1 b2 b3 b4 c1 c2 c3 c4 w⟩
end Go.Proofs.YtogfiekbikechaaGreatDoor

namespace Go.Proofs.YtogfiekbikechaaGreatDoor
open Go.RowKit

set_option maxHeartbeats 1000000 in
theorem div_inv (m x n y : Int) (hv : (validV m x && validV n y) = false) (rm rx re : Int) (w : World)
    (hc : ∀ w, Calls Tryz.prog 62 #[.agg #[.int .i64 m, .int .i64 x], .agg #[.int .i64 n, .int .i64 y], .func (.func 69) #[] #[]] w fun e w' => e = .returned (.tuple #[.agg #[.int .i64 rm, .int .i64 rx], .int .i64 re]) ∧ Ext w w') :
    Calls Tryz.prog 34 #[.agg #[.int .i64 m, .int .i64 x], .agg #[.int .i64 n, .int .i64 y]] w fun e w' => e = .returned (.tuple #[.agg #[.int .i64 rm, .int .i64 rx], .int .i64 re]) ∧ Ext w w' := by
  have A := Lib.hid (both_any m x n y)
  rw [hv] at A
  have HC := Lib.hid hc
  clear hc
  have hmf : ∀ (fn : Fn) (first cap : Array Value) (w : World), (Instr.makeFunc fn first cap).run Tryz.prog w = .ok (.func fn first cap) w := fun _ _ _ _ => rfl
  go_enter Tryz.func34, Tryz.ntmps34
  go_wp2_with fail
  refine (A.out _).mono ?_
  rintro e w1 ⟨rfl, hx⟩
  have X : Hid (Ext w w1) := Lib.hid (Ext.trans (by repeat (first | with_reducible exact Ext.refl _ | with_reducible refine Ext.alloc ?_ _ | with_reducible refine Ext.setCell ?_ (by simp) _)) hx)
  have sz : w.heap.size + 1 + 1 + 1 ≤ w1.heap.size := by simpa using hx.size
  have p00 : w1.cell? ⟨w.heap.size, 0, none⟩ = some (.int .i64 m) := (hx.cell 0 (by simp; try omega)).trans (by simp [go_sem])
  have p01 : w1.cell? ⟨w.heap.size, 1, none⟩ = some (.int .i64 x) := (hx.cell 1 (by simp; try omega)).trans (by simp [go_sem])
  have p10 : w1.cell? ⟨w.heap.size + 1, 0, none⟩ = some (.int .i64 n) := (hx.cell 0 (by simp; try omega)).trans (by simp [go_sem])
  have p11 : w1.cell? ⟨w.heap.size + 1, 1, none⟩ = some (.int .i64 y) := (hx.cell 1 (by simp; try omega)).trans (by simp [go_sem])
  have p20 : w1.cell? ⟨w.heap.size + 1 + 1, 0, none⟩ = some (.int .i64 0) := (hx.cell 0 (by simp; try omega)).trans (by simp [go_sem])
  have p21 : w1.cell? ⟨w.heap.size + 1 + 1, 1, none⟩ = some (.int .i64 0) := (hx.cell 1 (by simp; try omega)).trans (by simp [go_sem])
  have f0 : ∀ j, w1.frozen? ⟨w.heap.size + 1 + 1, j, none⟩ = false := fun j => (hx.froz j (by simp)).trans (by simp [go_sem])
  clear hx
  go_wp2_with fail
  refine (HC.out _).mono ?_
  rintro e w2 ⟨rfl, hx⟩
  have X := Lib.hid (X.out.trans hx)
  have p20 := (hx.cell 0 (b := w.heap.size + 1 + 1) (by omega)).trans p20
  have p21 := (hx.cell 1 (b := w.heap.size + 1 + 1) (by omega)).trans p21
  have f0 : ∀ j, w2.frozen? ⟨w.heap.size + 1 + 1, j, none⟩ = false := fun j => (hx.froz j (by omega)).trans (f0 j)
  clear hx p00 p01 p10 p11
  go_wp2
  refine bodyPost_ret (v := .tuple #[.agg #[.int .i64 rm, .int .i64 rx], .int .i64 re]) ?_ rfl ⟨rfl, ?_⟩
  · simp [results, Tryz.results34, go_sem, p20, p21]
  · exact (X.out.setCell (by simp; omega) _).setCell (by simp; omega) _
set_option maxHeartbeats 1000000 in
theorem div_none (m x n y : Int) (hv : (validV m x && validV n y) = true) (hn : (n == 0) = true) (w : World) :
    Calls Tryz.prog 34 #[.agg #[.int .i64 m, .int .i64 x], .agg #[.int .i64 n, .int .i64 y]] w fun e w' => e = .returned (.tuple #[.agg #[.int .i64 0, .int .i64 0], .int .i64 5]) ∧ Ext w w' := by
  have A := Lib.hid (both_any m x n y)
  rw [hv] at A
  have hmf : ∀ (fn : Fn) (first cap : Array Value) (w : World), (Instr.makeFunc fn first cap).run Tryz.prog w = .ok (.func fn first cap) w := fun _ _ _ _ => rfl
  go_enter Tryz.func34, Tryz.ntmps34
  go_wp2_with fail
  refine (A.out _).mono ?_
  rintro e w1 ⟨rfl, hx⟩
  have X : Hid (Ext w w1) := Lib.hid (Ext.trans (by repeat (first | with_reducible exact Ext.refl _ | with_reducible refine Ext.alloc ?_ _ | with_reducible refine Ext.setCell ?_ (by simp) _)) hx)
  have sz : w.heap.size + 1 + 1 + 1 ≤ w1.heap.size := by simpa using hx.size
  have p00 : w1.cell? ⟨w.heap.size, 0, none⟩ = some (.int .i64 m) := (hx.cell 0 (by simp; try omega)).trans (by simp [go_sem])
  have p01 : w1.cell? ⟨w.heap.size, 1, none⟩ = some (.int .i64 x) := (hx.cell 1 (by simp; try omega)).trans (by simp [go_sem])
  have p10 : w1.cell? ⟨w.heap.size + 1, 0, none⟩ = some (.int .i64 n) := (hx.cell 0 (by simp; try omega)).trans (by simp [go_sem])
  have p11 : w1.cell? ⟨w.heap.size + 1, 1, none⟩ = some (.int .i64 y) := (hx.cell 1 (by simp; try omega)).trans (by simp [go_sem])
  have p20 : w1.cell? ⟨w.heap.size + 1 + 1, 0, none⟩ = some (.int .i64 0) := (hx.cell 0 (by simp; try omega)).trans (by simp [go_sem])
  have p21 : w1.cell? ⟨w.heap.size + 1 + 1, 1, none⟩ = some (.int .i64 0) := (hx.cell 1 (by simp; try omega)).trans (by simp [go_sem])
  have f0 : ∀ j, w1.frozen? ⟨w.heap.size + 1 + 1, j, none⟩ = false := fun j => (hx.froz j (by simp)).trans (by simp [go_sem])
  clear hx
  go_wp2
  refine bodyPost_ret (v := .tuple #[.agg #[.int .i64 0, .int .i64 0], .int .i64 5]) ?_ rfl ⟨rfl, ?_⟩
  · simp [results, Tryz.results34, go_sem, p20, p21]
  · exact (X.out.setCell (by simp; omega) _).setCell (by simp; omega) _
set_option maxHeartbeats 1000000 in
theorem div_go (m x n y : Int) (hv : (validV m x && validV n y) = true) (hn : (n == 0) = false) (rm rx re : Int) (w : World)
    (hc : ∀ w, Calls Tryz.prog 62 #[.agg #[.int .i64 m, .int .i64 x], .agg #[.int .i64 n, .int .i64 y], .func (.func 69) #[] #[]] w fun e w' => e = .returned (.tuple #[.agg #[.int .i64 rm, .int .i64 rx], .int .i64 re]) ∧ Ext w w') :
    Calls Tryz.prog 34 #[.agg #[.int .i64 m, .int .i64 x], .agg #[.int .i64 n, .int .i64 y]] w fun e w' => e = .returned (.tuple #[.agg #[.int .i64 rm, .int .i64 rx], .int .i64 re]) ∧ Ext w w' := by
  have A := Lib.hid (both_any m x n y)
  rw [hv] at A
  have HC := Lib.hid hc
  clear hc
  have hmf : ∀ (fn : Fn) (first cap : Array Value) (w : World), (Instr.makeFunc fn first cap).run Tryz.prog w = .ok (.func fn first cap) w := fun _ _ _ _ => rfl
  go_enter Tryz.func34, Tryz.ntmps34
  go_wp2_with fail
  refine (A.out _).mono ?_
  rintro e w1 ⟨rfl, hx⟩
  have X : Hid (Ext w w1) := Lib.hid (Ext.trans (by repeat (first | with_reducible exact Ext.refl _ | with_reducible refine Ext.alloc ?_ _ | with_reducible refine Ext.setCell ?_ (by simp) _)) hx)
  have sz : w.heap.size + 1 + 1 + 1 ≤ w1.heap.size := by simpa using hx.size
  have p00 : w1.cell? ⟨w.heap.size, 0, none⟩ = some (.int .i64 m) := (hx.cell 0 (by simp; try omega)).trans (by simp [go_sem])
  have p01 : w1.cell? ⟨w.heap.size, 1, none⟩ = some (.int .i64 x) := (hx.cell 1 (by simp; try omega)).trans (by simp [go_sem])
  have p10 : w1.cell? ⟨w.heap.size + 1, 0, none⟩ = some (.int .i64 n) := (hx.cell 0 (by simp; try omega)).trans (by simp [go_sem])
  have p11 : w1.cell? ⟨w.heap.size + 1, 1, none⟩ = some (.int .i64 y) := (hx.cell 1 (by simp; try omega)).trans (by simp [go_sem])
  have p20 : w1.cell? ⟨w.heap.size + 1 + 1, 0, none⟩ = some (.int .i64 0) := (hx.cell 0 (by simp; try omega)).trans (by simp [go_sem])
  have p21 : w1.cell? ⟨w.heap.size + 1 + 1, 1, none⟩ = some (.int .i64 0) := (hx.cell 1 (by simp; try omega)).trans (by simp [go_sem])
  have f0 : ∀ j, w1.frozen? ⟨w.heap.size + 1 + 1, j, none⟩ = false := fun j => (hx.froz j (by simp)).trans (by simp [go_sem])
  clear hx
  go_wp2_with fail
  refine (HC.out _).mono ?_
  rintro e w2 ⟨rfl, hx⟩
  have X := Lib.hid (X.out.trans hx)
  have p20 := (hx.cell 0 (b := w.heap.size + 1 + 1) (by omega)).trans p20
  have p21 := (hx.cell 1 (b := w.heap.size + 1 + 1) (by omega)).trans p21
  have f0 : ∀ j, w2.frozen? ⟨w.heap.size + 1 + 1, j, none⟩ = false := fun j => (hx.froz j (by omega)).trans (f0 j)
  clear hx p00 p01 p10 p11
  go_wp2
  refine bodyPost_ret (v := .tuple #[.agg #[.int .i64 rm, .int .i64 rx], .int .i64 re]) ?_ rfl ⟨rfl, ?_⟩
  · simp [results, Tryz.results34, go_sem, p20, p21]
  · exact (X.out.setCell (by simp; omega) _).setCell (by simp; omega) _
theorem div_real (m x n y : Int) (w : World) :
    Calls Tryz.prog 34 #[.agg #[.int .i64 m, .int .i64 x], .agg #[.int .i64 n, .int .i64 y]] w fun e w' => e = .returned (.tuple #[.agg #[.int .i64 (divV m x n y).1.1, .int .i64 (divV m x n y).1.2], .int .i64 (divV m x n y).2]) ∧ Ext w w' := by
  unfold divV
  cases hv : validV m x && validV n y with
  | false =>
    simp only [Bool.false_and, Bool.false_eq_true, if_false]
    have hc : combV m x n y (quotV m x n y) = ((0, 0), 1) := by unfold combV; rw [hv]; rfl
    rw [hc]
    exact div_inv m x n y hv 0 0 1 w (fun w => combined_bad _ m x n y w hv)
  | true =>
    cases hn : n == 0 with
    | true => simp only [Bool.and_self, if_true]; exact div_none m x n y hv hn w
    | false =>
      simp only [Bool.and_false, Bool.false_eq_true, if_false]
      exact div_go m x n y hv hn _ _ _ w (fun w => div_comb m x n y (by simpa using hn) w)
end Go.Proofs.YtogfiekbikechaaGreatDoor

namespace Go.Proofs.YtogfiekbikechaaGreatDoor
open Go.RowKit

set_option maxHeartbeats 1000000 in
theorem pow_none (x n : Int) (hv : validV 0 x = true) (hn : n < 0) (w : World) :
    Calls Tryz.prog 39 #[.agg #[.int .i64 0, .int .i64 x], .int .i64 n] w fun e w' => e = .returned (.tuple #[.agg #[.int .i64 0, .int .i64 0], .int .i64 5]) ∧ Ext w w' := by
  have A := Lib.hid (valid_any 0 x)
  rw [hv] at A
  go_enter Tryz.func39, Tryz.ntmps39
  go_wp2_with fail
  refine (A.out _).mono ?_
  rintro e w1 ⟨rfl, hx⟩
  have X : Hid (Ext w w1) := Lib.hid (Ext.trans (by repeat (first | with_reducible exact Ext.refl _ | with_reducible refine Ext.alloc ?_ _)) hx)
  have sz : w.heap.size + 1 + 1 + 1 ≤ w1.heap.size := by simpa using hx.size
  have p0 : w1.cell? ⟨w.heap.size, 0, none⟩ = some (.int .i64 0) := (hx.cell 0 (by simp; omega)).trans (by simp [go_sem])
  have p1 : w1.cell? ⟨w.heap.size, 1, none⟩ = some (.int .i64 x) := (hx.cell 1 (by simp; omega)).trans (by simp [go_sem])
  have q0 : w1.cell? ⟨w.heap.size + 1, 0, none⟩ = some (.int .i64 n) := (hx.cell 0 (by simp)).trans (by simp [go_sem])
  have c0 : w1.cell? ⟨w.heap.size + 1 + 1, 0, none⟩ = some (.int .i64 0) := (hx.cell 0 (by simp)).trans (by simp [go_sem])
  have c1 : w1.cell? ⟨w.heap.size + 1 + 1, 1, none⟩ = some (.int .i64 0) := (hx.cell 1 (by simp)).trans (by simp [go_sem])
  have f0 : ∀ j, w1.frozen? ⟨w.heap.size + 1 + 1, j, none⟩ = false := fun j => (hx.froz j (by simp)).trans (by simp [go_sem])
  clear hx
  go_wp2
  refine bodyPost_ret (v := .tuple #[.agg #[.int .i64 0, .int .i64 0], .int .i64 5]) ?_ rfl ⟨rfl, ?_⟩
  · simp [results, Tryz.results39, go_sem, c0, c1]
  · exact (X.out.setCell (by simp; omega) _).setCell (by simp; omega) _
end Go.Proofs.YtogfiekbikechaaGreatDoor

namespace Go.Proofs.YtogfiekbikechaaGreatDoor
open Go.RowKit

def or0 (l : List UInt8) : List UInt8 := if l = [] then [48] else l
def pointV (a b : List UInt8) : List UInt8 := or0 a ++ [46] ++ or0 b

theorem point_00 (a : ByteArray) (_a1 : ¬ a.toList = []) (a2 : a.toList.isEmpty = false) (a3 : a.size ≤ 1000) (b : ByteArray) (_b1 : ¬ b.toList = []) (b2 : b.toList.isEmpty = false) (b3 : b.size ≤ 1000) (w : World) :
    Calls Tryz.prog 112 #[.string a, .string b] w fun e w' => e = .returned (.string (a ++ (⟨#[46]⟩ : ByteArray) ++ b)) ∧ Ext w w' := by
  have zl : (⟨#[]⟩ : ByteArray).toList = [] := by rw [Lib.toList_data]
  have zs : (⟨#[]⟩ : ByteArray).size = 0 := rfl
  go_enter Tryz.func112, Tryz.ntmps112
  go_wp2
  refine bodyPost_ret (v := .string (a ++ (⟨#[46]⟩ : ByteArray) ++ b)) ?_ rfl ⟨rfl, Ext.refl _⟩
  simp [results, Tryz.results112, go_sem]
theorem point_01 (a : ByteArray) (_a1 : ¬ a.toList = []) (a2 : a.toList.isEmpty = false) (a3 : a.size ≤ 1000) (w : World) :
    Calls Tryz.prog 112 #[.string a, .string ⟨#[]⟩] w fun e w' => e = .returned (.string (a ++ (⟨#[46]⟩ : ByteArray) ++ (⟨#[48]⟩ : ByteArray))) ∧ Ext w w' := by
  have zl : (⟨#[]⟩ : ByteArray).toList = [] := by rw [Lib.toList_data]
  have zs : (⟨#[]⟩ : ByteArray).size = 0 := rfl
  go_enter Tryz.func112, Tryz.ntmps112
  go_wp2
  refine bodyPost_ret (v := .string (a ++ (⟨#[46]⟩ : ByteArray) ++ (⟨#[48]⟩ : ByteArray))) ?_ rfl ⟨rfl, Ext.refl _⟩
  simp [results, Tryz.results112, go_sem]
theorem point_10 (b : ByteArray) (_b1 : ¬ b.toList = []) (b2 : b.toList.isEmpty = false) (b3 : b.size ≤ 1000) (w : World) :
    Calls Tryz.prog 112 #[.string ⟨#[]⟩, .string b] w fun e w' => e = .returned (.string ((⟨#[48]⟩ : ByteArray) ++ (⟨#[46]⟩ : ByteArray) ++ b)) ∧ Ext w w' := by
  have zl : (⟨#[]⟩ : ByteArray).toList = [] := by rw [Lib.toList_data]
  have zs : (⟨#[]⟩ : ByteArray).size = 0 := rfl
  go_enter Tryz.func112, Tryz.ntmps112
  go_wp2
  refine bodyPost_ret (v := .string ((⟨#[48]⟩ : ByteArray) ++ (⟨#[46]⟩ : ByteArray) ++ b)) ?_ rfl ⟨rfl, Ext.refl _⟩
  simp [results, Tryz.results112, go_sem]
theorem point_11  (w : World) :
    Calls Tryz.prog 112 #[.string ⟨#[]⟩, .string ⟨#[]⟩] w fun e w' => e = .returned (.string ((⟨#[48]⟩ : ByteArray) ++ (⟨#[46]⟩ : ByteArray) ++ (⟨#[48]⟩ : ByteArray))) ∧ Ext w w' := by
  have zl : (⟨#[]⟩ : ByteArray).toList = [] := by rw [Lib.toList_data]
  have zs : (⟨#[]⟩ : ByteArray).size = 0 := rfl
  go_enter Tryz.func112, Tryz.ntmps112
  go_wp2
  refine bodyPost_ret (v := .string ((⟨#[48]⟩ : ByteArray) ++ (⟨#[46]⟩ : ByteArray) ++ (⟨#[48]⟩ : ByteArray))) ?_ rfl ⟨rfl, Ext.refl _⟩
  simp [results, Tryz.results112, go_sem]
theorem bs_cases (l : List UInt8) : (l = [] ∧ bs l = ⟨#[]⟩) ∨ (l ≠ [] ∧ ¬ (bs l).toList = [] ∧ (bs l).toList.isEmpty = false) := by
  by_cases h : l = []
  · subst h; exact .inl ⟨rfl, rfl⟩
  · exact .inr ⟨h, bs_emp h⟩
theorem point_any (a b : List UInt8) (ha : a.length ≤ 1000) (hb : b.length ≤ 1000) (w : World) :
    Calls Tryz.prog 112 #[.string (bs a), .string (bs b)] w fun e w' => e = .returned (.string (bs (pointV a b))) ∧ Ext w w' := by
  have e0 : bs (pointV a b) = bs (or0 a) ++ (⟨#[46]⟩ : ByteArray) ++ bs (or0 b) := by
    unfold pointV; rw [← bs_append, ← bs_append]; rfl
  rw [e0]
  unfold or0
  rcases bs_cases a with ⟨h, h2⟩ | ⟨h, h2, h3⟩ <;> rcases bs_cases b with ⟨k, k2⟩ | ⟨k, k2, k3⟩
  · rw [if_pos h, if_pos k, h2, k2]; exact point_11 w
  · rw [if_pos h, if_neg k, h2]; exact point_10 (bs b) k2 k3 hb w
  · rw [if_neg h, if_pos k, k2]; exact point_01 (bs a) h2 h3 ha w
  · rw [if_neg h, if_neg k]; exact point_00 (bs a) h2 h3 ha (bs b) k2 k3 hb w
end Go.Proofs.YtogfiekbikechaaGreatDoor

namespace Go.Proofs.YtogfiekbikechaaGreatDoor

structure Dec where
  num : Nat
  below : Nat
  above : Nat
  size : Nat
  point : Int
def decUp : Nat → Dec → Dec
  | 0, d => d
  | f + 1, d => if d.size ≤ d.num then decUp f { d with size := d.size * 10 % M384, point := d.point + 1 } else d
def decDown : Nat → Dec → Dec
  | 0, d => d
  | f + 1, d => if d.num * 10 % M384 < d.size then decDown f { d with num := d.num * 10 % M384, below := d.below * 10 % M384, above := d.above * 10 % M384, point := d.point - 1 } else d
/-- The program's decimalOf, for a mantissa's magnitude and an exponent. -/
def decStart (man : Nat) (x : Int) : Dec :=
  let b := if man = 8388608 ∧ -150 < x then 1 else 2
  if 0 ≤ x then ⟨shN (4 * man) x.toNat, shN b x.toNat, shN 2 x.toNat, 4, 0⟩ else ⟨4 * man, b, 2, shN 4 (-x).toNat, 0⟩
def decV (man : Nat) (x : Int) : Dec := decDown 60 (decUp 60 (decStart man x))
/-- The places of a fraction, one after the other; even: whether the mantissa is. -/
def shortL (even : Bool) (size : Nat) : Nat → Nat → Nat → Nat → List Nat
  | 0, _, _, _ => []
  | f + 1, num, below, above =>
    let n10 := num * 10 % M384
    let digit := n10 / size
    let r := n10 % size
    let bl := below * 10 % M384
    let ab := above * 10 % M384
    let ra := (r + ab) % M384
    let down := decide (r < bl) || (decide (r = bl) && even)
    let up0 := decide (size < ra) || (decide (ra = size) && even)
    let rr := (r + r) % M384
    let up := if down && up0 then decide (size < rr) || (decide (rr = size) && digit % 2 == 1) else up0
    let dg := if up then digit + 1 else digit
    if down || up then [dg] else dg :: shortL even size f r bl ab
/-- The digits and the place of the point (a first digit that became 10 apart). -/
def shortestV (m x : Int) : List Nat × Int :=
  let d := decV m.natAbs x
  let l := shortL (m % 2 == 0) d.size 60 d.num d.below d.above
  if l = [10] then ([1], d.point + 1) else (l, d.point)

example : shortestV 11184811 (-25) = ([3, 3, 3, 3, 3, 3, 3, 4], 0) := by decide +kernel
example : shortestV 1 (-150) = ([7], -45) := by decide +kernel
end Go.Proofs.YtogfiekbikechaaGreatDoor

namespace Go.Proofs
open Go.Shelf
def Tryz.laysM171_ren : Go.Shelf.Ren := ⟨fun | 171 => 113 | 243 => 136 | 246 => 152 | 283 => 159 | 284 => 160 | 285 => 161 | 286 => 162 | 129 => 122 | 317 => 169 | 318 => 170 | 319 => 171 | 320 => 172 | 337 => 174 | 338 => 175 | n => n, fun | 3 => 3 | 9 => 9 | 2 => 2 | 4 => 4 | 171 => 176 | 0 => 0 | 53 => 64 | 37 => 119 | 5 => 5 | 173 => 178 | 212 => 148 | 51 => 137 | 20 => 20 | 213 => 192 | 46 => 63 | 232 => 193 | 233 => 194 | n => n, fun | 17 => 3 | 18 => 5 | 19 => 6 | n => n⟩
theorem Tryz.laysM171 : Go.Proofs.LaysM.n171 Tryz.prog Tryz.laysM171_ren := {
  mixed := by kernel_rfl
  f129 := Tryz.func122.trans (congrArg some (by kernel_rfl))
  f171 := Tryz.func113.trans (congrArg some (by kernel_rfl))
  f243 := Tryz.func136.trans (congrArg some (by kernel_rfl))
  f246 := Tryz.func152.trans (congrArg some (by kernel_rfl))
  f283 := Tryz.func159.trans (congrArg some (by kernel_rfl))
  f284 := Tryz.func160.trans (congrArg some (by kernel_rfl))
  f285 := Tryz.func161.trans (congrArg some (by kernel_rfl))
  f286 := Tryz.func162.trans (congrArg some (by kernel_rfl))
  f317 := Tryz.func169.trans (congrArg some (by kernel_rfl))
  f318 := Tryz.func170.trans (congrArg some (by kernel_rfl))
  f319 := Tryz.func171.trans (congrArg some (by kernel_rfl))
  f320 := Tryz.func172.trans (congrArg some (by kernel_rfl))
  f337 := Tryz.func174.trans (congrArg some (by kernel_rfl))
  f338 := Tryz.func175.trans (congrArg some (by kernel_rfl))
  t0 := Tryz.underlying0
  a0 := Tryz.isAgg0
  z0 := Tryz.sizeOf0
  v0 := Tryz.zeroValue0
  t2 := Tryz.underlying2
  a2 := Tryz.isAgg2
  z2 := Tryz.sizeOf2
  v2 := Tryz.zeroValue2
  t3 := Tryz.underlying3
  a3 := Tryz.isAgg3
  z3 := Tryz.sizeOf3
  v3 := Tryz.zeroValue3
  t4 := Tryz.underlying4
  a4 := Tryz.isAgg4
  z4 := Tryz.sizeOf4
  v4 := Tryz.zeroValue4
  t5 := Tryz.underlying5
  a5 := Tryz.isAgg5
  z5 := Tryz.sizeOf5
  v5 := Tryz.zeroValue5
  t9 := Tryz.underlying9
  a9 := Tryz.isAgg9
  z9 := Tryz.sizeOf9
  v9 := Tryz.zeroValue9
  t20 := Tryz.underlying20
  a20 := Tryz.isAgg20
  z20 := Tryz.sizeOf20
  v20 := Tryz.zeroValue20
  t37 := Tryz.underlying119
  a37 := Tryz.isAgg119
  z37 := Tryz.sizeOf119
  v37 := Tryz.zeroValue119
  t46 := Tryz.underlying63
  a46 := Tryz.isAgg63
  z46 := Tryz.sizeOf63
  v46 := Tryz.zeroValue63
  t51 := Tryz.underlying137
  a51 := Tryz.isAgg137
  z51 := Tryz.sizeOf137
  v51 := Tryz.zeroValue137
  t53 := Tryz.underlying64
  a53 := Tryz.isAgg64
  z53 := Tryz.sizeOf64
  v53 := Tryz.zeroValue64
  t171 := Tryz.underlying176
  a171 := Tryz.isAgg176
  z171 := Tryz.sizeOf176
  v171 := Tryz.zeroValue176
  t173 := Tryz.underlying178
  a173 := Tryz.isAgg178
  z173 := Tryz.sizeOf178
  v173 := Tryz.zeroValue178
  t212 := Tryz.underlying148
  a212 := Tryz.isAgg148
  z212 := Tryz.sizeOf148
  v212 := Tryz.zeroValue148
  t213 := Tryz.underlying192
  a213 := Tryz.isAgg192
  z213 := Tryz.sizeOf192
  t232 := Tryz.underlying193
  a232 := Tryz.isAgg193
  z232 := Tryz.sizeOf193
  v232 := Tryz.zeroValue193
  t233 := Tryz.underlying194
  a233 := Tryz.isAgg194
  z233 := Tryz.sizeOf194
  v233 := Tryz.zeroValue194
  g17 := by kernel_rfl
  g18 := by kernel_rfl
  g19 := by kernel_rfl
  i0 := by kernel_rfl
  i2 := by kernel_rfl
  i3 := by kernel_rfl
  i4 := by kernel_rfl
  i5 := by kernel_rfl
  i9 := by kernel_rfl
  i20 := by kernel_rfl
  i37 := by kernel_rfl
  i46 := by kernel_rfl
  i51 := by kernel_rfl
  i53 := by kernel_rfl
  i171 := by kernel_rfl
  i173 := by kernel_rfl
  i212 := by kernel_rfl
  i232 := by kernel_rfl
  i233 := by kernel_rfl
  m17 := by kernel_rfl
  m18 := by kernel_rfl
  m19 := by kernel_rfl }
open Go.RowKit Go.Sort Go.Lib in
/-- strconv.Itoa: "Itoa is equivalent to FormatInt(int64(i), 10).": i's DECIMAL NUMERAL ('Lib.itoa': a '-' where i is negative, then the digits), FOR EVERY int. The world behind the call: the world before it, new blocks behind the heap (the library's 'var a [24]byte'), draws. (LAID: no walk: one application.) -/
theorem Tryz.strconv_Itoa (n : Int) (h0 : -9223372036854775808 ≤ n) (h1 : n ≤ 9223372036854775807) (w : World) (htab : Lib.TabIs Tryz.prog w "internal/strconv.uint64pow10" .u64 Lib.pow10Tab) :
    Calls Tryz.prog 113 #[.int .i64 n] w fun e w' => e = .returned (.string ⟨(Lib.itoa n).toArray⟩) ∧ ∃ k os, w' = grow (w.drewN k) os := Any.strconv_Itoa Tryz.laysM171 n h0 h1 w htab
def Tryz.lays105_ren : Go.Shelf.Ren := ⟨fun | 105 => 114 | 212 => 137 | 99 => 138 | 165 => 139 | 166 => 140 | 170 => 141 | 169 => 142 | 263 => 153 | 264 => 130 | 206 => 146 | 240 => 154 | 241 => 155 | 276 => 163 | 277 => 164 | n => n, fun | 9 => 9 | 3 => 3 | 4 => 4 | 20 => 20 | 0 => 0 | 46 => 63 | 109 => 151 | 5 => 5 | 72 => 156 | 76 => 160 | 51 => 137 | 146 => 171 | 53 => 64 | 148 => 145 | 70 => 154 | 37 => 119 | 75 => 159 | 127 => 173 | 164 => 180 | 80 => 162 | n => n, fun | n => n⟩
theorem Tryz.lays105 : Go.Proofs.Lays.n105 Tryz.prog Tryz.lays105_ren := {
  mixed := by kernel_rfl
  f99 := Tryz.func138.trans (congrArg some (by kernel_rfl))
  f105 := Tryz.func114.trans (congrArg some (by kernel_rfl))
  f165 := Tryz.func139.trans (congrArg some (by kernel_rfl))
  f166 := Tryz.func140.trans (congrArg some (by kernel_rfl))
  f169 := Tryz.func142.trans (congrArg some (by kernel_rfl))
  f170 := Tryz.func141.trans (congrArg some (by kernel_rfl))
  f206 := Tryz.func146.trans (congrArg some (by kernel_rfl))
  f212 := Tryz.func137.trans (congrArg some (by kernel_rfl))
  f240 := Tryz.func154.trans (congrArg some (by kernel_rfl))
  f241 := Tryz.func155.trans (congrArg some (by kernel_rfl))
  f263 := Tryz.func153.trans (congrArg some (by kernel_rfl))
  f264 := Tryz.func130.trans (congrArg some (by kernel_rfl))
  f276 := Tryz.func163.trans (congrArg some (by kernel_rfl))
  f277 := Tryz.func164.trans (congrArg some (by kernel_rfl))
  t0 := Tryz.underlying0
  a0 := Tryz.isAgg0
  z0 := Tryz.sizeOf0
  v0 := Tryz.zeroValue0
  t3 := Tryz.underlying3
  a3 := Tryz.isAgg3
  z3 := Tryz.sizeOf3
  v3 := Tryz.zeroValue3
  t4 := Tryz.underlying4
  a4 := Tryz.isAgg4
  z4 := Tryz.sizeOf4
  v4 := Tryz.zeroValue4
  t5 := Tryz.underlying5
  a5 := Tryz.isAgg5
  z5 := Tryz.sizeOf5
  v5 := Tryz.zeroValue5
  t9 := Tryz.underlying9
  a9 := Tryz.isAgg9
  z9 := Tryz.sizeOf9
  v9 := Tryz.zeroValue9
  t20 := Tryz.underlying20
  a20 := Tryz.isAgg20
  z20 := Tryz.sizeOf20
  v20 := Tryz.zeroValue20
  t37 := Tryz.underlying119
  a37 := Tryz.isAgg119
  z37 := Tryz.sizeOf119
  v37 := Tryz.zeroValue119
  t46 := Tryz.underlying63
  a46 := Tryz.isAgg63
  z46 := Tryz.sizeOf63
  v46 := Tryz.zeroValue63
  t51 := Tryz.underlying137
  a51 := Tryz.isAgg137
  z51 := Tryz.sizeOf137
  v51 := Tryz.zeroValue137
  t53 := Tryz.underlying64
  a53 := Tryz.isAgg64
  z53 := Tryz.sizeOf64
  v53 := Tryz.zeroValue64
  t70 := Tryz.underlying154
  a70 := Tryz.isAgg154
  z70 := Tryz.sizeOf154
  v70 := Tryz.zeroValue154
  t72 := Tryz.underlying156
  a72 := Tryz.isAgg156
  z72 := Tryz.sizeOf156
  v72 := Tryz.zeroValue156
  t75 := Tryz.underlying159
  a75 := Tryz.isAgg159
  z75 := Tryz.sizeOf159
  v75 := Tryz.zeroValue159
  t76 := Tryz.underlying160
  a76 := Tryz.isAgg160
  z76 := Tryz.sizeOf160
  v76 := Tryz.zeroValue160
  t109 := Tryz.underlying151
  a109 := Tryz.isAgg151
  z109 := Tryz.sizeOf151
  v109 := Tryz.zeroValue151
  t127 := Tryz.underlying173
  a127 := Tryz.isAgg173
  z127 := Tryz.sizeOf173
  v127 := Tryz.zeroValue173
  t146 := Tryz.underlying171
  a146 := Tryz.isAgg171
  z146 := Tryz.sizeOf171
  v146 := Tryz.zeroValue171
  t148 := Tryz.underlying145
  a148 := Tryz.isAgg145
  z148 := Tryz.sizeOf145
  v148 := Tryz.zeroValue145
  t164 := Tryz.underlying180
  a164 := Tryz.isAgg180
  z164 := Tryz.sizeOf180
  v164 := Tryz.zeroValue180 }
theorem Tryz.Builder_Extra_105 : Builder.Extra Tryz.prog Tryz.lays105_ren := {
  sizeBuilder := by kernel_rfl
  liesBuilder := by kernel_rfl
  t5 := Tryz.underlying5
  a5 := Tryz.isAgg5
  z5 := Tryz.sizeOf5
  v5 := Tryz.zeroValue5
  infoByte := by kernel_rfl
  cellsByte := by kernel_rfl
  sizeByte := by kernel_rfl
  neB5 := by decide }
open Go.RowKit Go.Lib in
/-- **strings.Repeat: count ≥ 0, the result within one allocation: count copies of s.** (LAID: no walk: one application.) -/
theorem Tryz.strings_Repeat (s : ByteArray) (c : Nat) (w : World) (hc : c ≤ 9223372036854775807) (hlen : s.size * c ≤ 140737488355328) :
    Calls Tryz.prog 114 #[.string s, .int .i64 c] w fun e w' => e = .returned (.string ⟨(Lib.repeatL s.data.toList c).toArray⟩) ∧ Below w.heap.size w w' := Any.strings_Repeat Tryz.lays105 Tryz.Builder_Extra_105 s c w hc hlen
end Go.Proofs
