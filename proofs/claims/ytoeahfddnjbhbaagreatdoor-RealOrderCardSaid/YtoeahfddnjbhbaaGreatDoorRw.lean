/- Layer 2: Print. -/
import Derived.Test.YtoeahfddnjbhbaaGreatDoorRs
import Derived.Test.YtoeahfddnjbhbaaGreatDoorRv
import Derived.Test.YtoeahfddnjbhbaaGreatDoorNzi
namespace Go.Proofs.YtoeahfddnjbhbaaGreatDoor
open Go.RowKit

theorem print_neg (m x : Int) (hv : validV m x = true) (hne : (m == 0 && x == 0) = false) (hm : m < 0) (p t : List UInt8) (k : Int) (w : World)
    (SH : ∀ u, Ext w u → Calls Tryz.prog 102 #[.agg #[.int .i64 m, .int .i64 x]] u fun e w' => e = .returned (.tuple #[.string (bs p), .int .i64 k]) ∧ Ext u w')
    (LA : ∀ u, Ext w u → Calls Tryz.prog 101 #[.string (bs p), .int .i64 k] u fun e w' => e = .returned (.string (bs t)) ∧ Ext u w') (htl : t.length ≤ 500) :
    Calls Tryz.prog 54 #[.agg #[.int .i64 m, .int .i64 x]] w fun e w' => e = .returned (.tuple #[.string (bs (45 :: t)), .int .i64 0]) ∧ Ext w w' := by
  have A := Lib.hid (valid_any m x)
  rw [hv] at A
  have HS := Lib.hid SH
  have HL := Lib.hid LA
  have eqR := eqReal
  have hsz : (bs t).size ≤ 1000 := by show t.length ≤ 1000; omega
  clear SH LA
  go_enter Tryz.func54, Tryz.ntmps54
  go_wp2_with fail
  refine (A.out _).mono ?_
  rintro e w1 ⟨rfl, hx⟩
  have X : Hid (Ext w w1) := Lib.hid (Ext.trans (by repeat (first | with_reducible exact Ext.refl _ | with_reducible refine Ext.alloc ?_ _)) hx)
  have sz : w.heap.size + 1 ≤ w1.heap.size := by simpa using hx.size
  have p0 : w1.cell? ⟨w.heap.size, 0, none⟩ = some (.int .i64 m) := (hx.cell 0 (by simp)).trans (by simp [go_sem])
  have p1 : w1.cell? ⟨w.heap.size, 1, none⟩ = some (.int .i64 x) := (hx.cell 1 (by simp)).trans (by simp [go_sem])
  clear hx
  go_wp2_with fail
  refine (HS.out _ X.out).mono ?_
  rintro e w2 ⟨rfl, hx⟩
  have q0 : w2.cell? ⟨w.heap.size, 0, none⟩ = some (.int .i64 m) := (hx.cell 0 (by omega)).trans p0
  have X2 : Hid (Ext w w2) := Lib.hid (X.out.trans hx)
  have sz2 := hx.size
  clear hx p0 p1 X
  go_wp2_with fail
  refine (HL.out _ X2.out).mono ?_
  rintro e w3 ⟨rfl, hx⟩
  have r0 : w3.cell? ⟨w.heap.size, 0, none⟩ = some (.int .i64 m) := (hx.cell 0 (by omega)).trans q0
  have X3 : Hid (Ext w w3) := Lib.hid (X2.out.trans hx)
  clear hx q0 X2
  have eb : (⟨#[45]⟩ : ByteArray) ++ bs t = bs (45 :: t) := by rw [show (⟨#[45]⟩ : ByteArray) = bs [45] from rfl, bs_append]; rfl
  have EB := Lib.hid eb
  clear eb
  go_wp2
  rw [EB.out]
  first | (go_ret2; exact ⟨rfl, X3.out⟩) | (refine bodyPost_ret (v := .tuple #[.string (bs (45 :: t)), .int .i64 0]) ?_ rfl ⟨rfl, X3.out⟩; simp [results, Tryz.results54, go_sem])
theorem print_pos (m x : Int) (hv : validV m x = true) (hne : (m == 0 && x == 0) = false) (hm : ¬ m < 0) (p t : List UInt8) (k : Int) (w : World)
    (SH : ∀ u, Ext w u → Calls Tryz.prog 102 #[.agg #[.int .i64 m, .int .i64 x]] u fun e w' => e = .returned (.tuple #[.string (bs p), .int .i64 k]) ∧ Ext u w')
    (LA : ∀ u, Ext w u → Calls Tryz.prog 101 #[.string (bs p), .int .i64 k] u fun e w' => e = .returned (.string (bs t)) ∧ Ext u w') :
    Calls Tryz.prog 54 #[.agg #[.int .i64 m, .int .i64 x]] w fun e w' => e = .returned (.tuple #[.string (bs t), .int .i64 0]) ∧ Ext w w' := by
  have A := Lib.hid (valid_any m x)
  rw [hv] at A
  have HS := Lib.hid SH
  have HL := Lib.hid LA
  have eqR := eqReal
  clear SH LA
  go_enter Tryz.func54, Tryz.ntmps54
  go_wp2_with fail
  refine (A.out _).mono ?_
  rintro e w1 ⟨rfl, hx⟩
  have X : Hid (Ext w w1) := Lib.hid (Ext.trans (by repeat (first | with_reducible exact Ext.refl _ | with_reducible refine Ext.alloc ?_ _)) hx)
  have sz : w.heap.size + 1 ≤ w1.heap.size := by simpa using hx.size
  have p0 : w1.cell? ⟨w.heap.size, 0, none⟩ = some (.int .i64 m) := (hx.cell 0 (by simp)).trans (by simp [go_sem])
  have p1 : w1.cell? ⟨w.heap.size, 1, none⟩ = some (.int .i64 x) := (hx.cell 1 (by simp)).trans (by simp [go_sem])
  clear hx
  go_wp2_with fail
  refine (HS.out _ X.out).mono ?_
  rintro e w2 ⟨rfl, hx⟩
  have q0 : w2.cell? ⟨w.heap.size, 0, none⟩ = some (.int .i64 m) := (hx.cell 0 (by omega)).trans p0
  have X2 : Hid (Ext w w2) := Lib.hid (X.out.trans hx)
  have sz2 := hx.size
  clear hx p0 p1 X
  go_wp2_with fail
  refine (HL.out _ X2.out).mono ?_
  rintro e w3 ⟨rfl, hx⟩
  have r0 : w3.cell? ⟨w.heap.size, 0, none⟩ = some (.int .i64 m) := (hx.cell 0 (by omega)).trans q0
  have X3 : Hid (Ext w w3) := Lib.hid (X2.out.trans hx)
  clear hx q0 X2
  go_wp2
  first | (go_ret2; exact ⟨rfl, X3.out⟩) | (refine bodyPost_ret (v := .tuple #[.string (bs t), .int .i64 0]) ?_ rfl ⟨rfl, X3.out⟩; simp [results, Tryz.results54, go_sem])

/-- The text of a real that is not 0. -/
def prD (m x : Int) : Dec := decV m.natAbs x
def prP (m x : Int) : List UInt8 × Int := shT (prD m x) (m.tmod 2 == 0)
def printV (m x : Int) : List UInt8 := let t := layoutV (prP m x).1 (prP m x).2; if m < 0 then 45 :: t else t
/-- What its loops need to end where they do. -/
def printOK (m x : Int) : Bool :=
  let d0 := decStart m.natAbs x
  let d1 := decUp 60 d0
  let d2 := decDown 60 d1
  upDone 60 d0 && downDone 60 d1 && decide (d1.point ≤ 100) && decide (-100 ≤ d1.point) && decide (d2.num < d2.size) && decide (d2.num < N6) && decide (d2.below < N6) && decide (d2.above < N6) && decide (d2.size < N6) &&
    shortDone (m.tmod 2 == 0) d2.size 60 d2.num d2.below d2.above && decide (-100 ≤ d2.point) && decide (d2.point ≤ 100) && decide (1 ≤ (prP m x).1.length) && decide ((prP m x).1.length ≤ 80) && decide (-200 ≤ (prP m x).2) && decide ((prP m x).2 ≤ 200) && decide ((layoutV (prP m x).1 (prP m x).2).length ≤ 500)
theorem print_any (m x : Int) (hv : validV m x = true) (h0 : m ≠ 0) (hok : printOK m x = true) (w : World) (ht : Pow10 w) :
    Calls Tryz.prog 54 #[.agg #[.int .i64 m, .int .i64 x]] w fun e w' => e = .returned (.tuple #[.string (bs (printV m x)), .int .i64 0]) ∧ Ext w w' := by
  obtain ⟨b1, b2, b3, b4, _⟩ := valid_bd hv
  unfold printOK at hok
  simp only [Bool.and_eq_true, decide_eq_true_eq] at hok
  obtain ⟨⟨⟨⟨⟨⟨⟨⟨⟨⟨⟨⟨⟨⟨⟨⟨k1, k2⟩, k3⟩, k4⟩, k5⟩, k6⟩, k7⟩, k8⟩, k9⟩, k10⟩, k11⟩, k12⟩, k13⟩, k14⟩, k15⟩, k16⟩, k17⟩ := hok
  have hne : (m == 0 && x == 0) = false := by simp [h0]
  have hD : ∀ u, Calls Tryz.prog 127 #[.agg #[.int .i64 m, .int .i64 x]] u fun e w' => e = .returned (.agg #[.int .u64 (L ((prD m x).num) 0), .int .u64 (L ((prD m x).num) 1), .int .u64 (L ((prD m x).num) 2), .int .u64 (L ((prD m x).num) 3), .int .u64 (L ((prD m x).num) 4), .int .u64 (L ((prD m x).num) 5), .int .u64 (L ((prD m x).below) 0), .int .u64 (L ((prD m x).below) 1), .int .u64 (L ((prD m x).below) 2), .int .u64 (L ((prD m x).below) 3), .int .u64 (L ((prD m x).below) 4), .int .u64 (L ((prD m x).below) 5), .int .u64 (L ((prD m x).above) 0), .int .u64 (L ((prD m x).above) 1), .int .u64 (L ((prD m x).above) 2), .int .u64 (L ((prD m x).above) 3), .int .u64 (L ((prD m x).above) 4), .int .u64 (L ((prD m x).above) 5), .int .u64 (L ((prD m x).size) 0), .int .u64 (L ((prD m x).size) 1), .int .u64 (L ((prD m x).size) 2), .int .u64 (L ((prD m x).size) 3), .int .u64 (L ((prD m x).size) 4), .int .u64 (L ((prD m x).size) 5), .int .i64 (prD m x).point]) ∧ Ext u w' :=
    fun u => dec_any m x m.natAbs (by omega) (by omega) b1 b2 b3 b4 (decStart m.natAbs x) (decUp 60 (decStart m.natAbs x)) (prD m x) rfl k1 rfl k2 rfl k3 k4 u
  have SH : ∀ u, Ext w u → Calls Tryz.prog 102 #[.agg #[.int .i64 m, .int .i64 x]] u fun e w' => e = .returned (.tuple #[.string (bs (prP m x).1), .int .i64 (prP m x).2]) ∧ Ext u w' := fun u hx =>
    shortest_any m x (prD m x) (m.tmod 2 == 0) rfl k5 ⟨k6, k7, k8, k9⟩ k10 k11 k12 u (fun d hd u2 hx2 => itoaD_any d hd u2 ((ht.later hx).later hx2)) hD
  have LA : ∀ u, Ext w u → Calls Tryz.prog 101 #[.string (bs (prP m x).1), .int .i64 (prP m x).2] u fun e w' => e = .returned (.string (bs (layoutV (prP m x).1 (prP m x).2))) ∧ Ext u w' := fun u hx =>
    layout_any _ _ k13 k14 k15 k16 u (ht.later hx)
  unfold printV
  simp only
  by_cases hm : m < 0
  · rw [if_pos hm]; exact print_neg m x hv hne hm _ _ _ w SH LA k17
  · rw [if_neg hm]; exact print_pos m x hv hne hm _ _ _ w SH LA
end Go.Proofs.YtoeahfddnjbhbaaGreatDoor
