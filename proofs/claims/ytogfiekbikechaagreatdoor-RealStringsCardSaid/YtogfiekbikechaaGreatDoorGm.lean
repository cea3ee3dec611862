/- Layer 2: a block of four naturals and an int (no program here). -/
/- Regions that draw their order and whose last operations store: a condition that holds till the first of these stores (no program here). -/
/- Layer 2: magnitudes of reals by their indices, in units of 2^-150, and what it is to be the nearest one (no program here). -/
/- Layer 2: what a rounding gives is the nearest real (no program here). -/
/- Layer 2: reals and their indices; a rounding gives the real with the nearest index (no program here). -/
/- Layer 2: sums, products and quotients are rounded to the nearest real (no program here). -/
/- Layer 2: indices, order and representable numbers (no program here). -/
/- Layer 2: laws of sums, products and quotients (no program here). -/
/- Layer 2: the nearest real is not further than any other; rounding keeps the order (no program here). -/
/- Layer 2: the loops of decimalOf, as plain functions; the blocks that its walk carries (no program here). -/
/- A result that lies in a variable of memory. -/
import Derived.Test.YtogfiekbikechaaGreatDoorGa
import Derived.Test.YtogfiekbikechaaGreatDoorGk
import Derived.Deep.RegionHeld
import Derived.WalkKit
import Derived.Test.YtogfiekbikechaaGreatDoorGd
import Derived.Deep.MidRow
import Derived.Tactics
namespace Go.Proofs.YtogfiekbikechaaGreatDoor
open Go.RowKit

/-- Block b holds 25 values, which may be written. -/
structure Dk (wr : World) (b : Nat) (c : Nat → Value) : Prop where
  cell : ∀ j, j < 25 → wr.cell? ⟨b, j, none⟩ = some (c j)
  froz : ∀ j, wr.frozen? ⟨b, j, none⟩ = false
theorem Dk.lt {wr : World} {b : Nat} {c : Nat → Value} (h : Dk wr b c) : b < wr.heap.size := World.block_lt_of_cell? wr _ (h.cell 0 (by omega))
theorem Dk.later {w wr : World} {b : Nat} {c : Nat → Value} (h : Dk w b c) (hx : Ext w wr) : Dk wr b c :=
  ⟨fun j hj => (hx.cell j h.lt).trans (h.cell j hj), fun j => (hx.froz j h.lt).trans (h.froz j)⟩
theorem Dk.of_eq {wr : World} {b : Nat} {c d : Nat → Value} (h : Dk wr b c) (he : ∀ j, j < 25 → d j = c j) : Dk wr b d :=
  ⟨fun j hj => by rw [he j hj]; exact h.cell j hj, h.froz⟩
theorem Dk.set {w : World} {b k : Nat} {c : Nat → Value} (h : Dk w b c) (hk : k < 25) (v : Value) : Dk (w.setCell ⟨b, k, none⟩ v) b (fun j => if j = k then v else c j) where
  cell := fun j hj => by
    by_cases e : j = k
    · subst e; simp only [if_true]; exact World.cell?_setCell_same' _ _ _ (by rw [h.cell j hj]; rfl)
    · rw [if_neg e, ← h.cell j hj]
      apply World.cell?_setCell_other; intro e2; simp at e2; try exact e e2.symm
  froz := fun j => by rw [World.frozen?_setCell]; exact h.froz j
theorem Dk.other {w : World} {b d k : Nat} {c : Nat → Value} (h : Dk w b c) {v : Value} (hn : b ≠ d) : Dk (w.setCell ⟨d, k, none⟩ v) b c where
  cell := fun j hj => by
    rw [← h.cell j hj]
    apply World.cell?_setCell_other; intro e2; simp at e2; try exact hn e2.1.symm
  froz := fun j => by rw [World.frozen?_setCell]; exact h.froz j
theorem Dk.drew {w : World} {b : Nat} {c : Nat → Value} (h : Dk w b c) : Dk w.drew b c := h.later ((Ext.refl w).drew)

/-- Six setCells from place o on. -/
def put6 (w : World) (b o : Nat) (Y : Nat → Nat) : World :=
  (((((w.setCell ⟨b, o, none⟩ (.int .u64 (Y 0))).setCell ⟨b, o + 1, none⟩ (.int .u64 (Y 1))).setCell ⟨b, o + 2, none⟩ (.int .u64 (Y 2))).setCell ⟨b, o + 3, none⟩ (.int .u64 (Y 3))).setCell ⟨b, o + 4, none⟩ (.int .u64 (Y 4))).setCell ⟨b, o + 5, none⟩ (.int .u64 (Y 5))
theorem Dk.put {w : World} {b o : Nat} {c : Nat → Value} (h : Dk w b c) (ho : o + 6 ≤ 25) (Y : Nat → Nat) : Dk (put6 w b o Y) b (fun j => if o ≤ j ∧ j < o + 6 then .int .u64 (Y (j - o)) else c j) := by
  refine ((((((h.set (k := o) (by omega) _).set (k := o + 1) (by omega) _).set (k := o + 2) (by omega) _).set (k := o + 3) (by omega) _).set (k := o + 4) (by omega) _).set (k := o + 5) (by omega) _).of_eq fun j hj => ?_
  by_cases h1 : o ≤ j ∧ j < o + 6
  · rw [if_pos h1]
    have : j = o ∨ j = o + 1 ∨ j = o + 2 ∨ j = o + 3 ∨ j = o + 4 ∨ j = o + 5 := by omega
    rcases this with rfl | rfl | rfl | rfl | rfl | rfl <;> simp
  · rw [if_neg h1, if_neg (by omega), if_neg (by omega), if_neg (by omega), if_neg (by omega), if_neg (by omega), if_neg (by omega)]
theorem Dk.put_other {w : World} {b d o : Nat} {c : Nat → Value} (h : Dk w b c) {Y : Nat → Nat} (hn : b ≠ d) : Dk (put6 w d o Y) b c :=
  (((((h.other hn).other hn).other hn).other hn).other hn).other hn
theorem Six.put6_other {w : World} {b d o : Nat} {X Y : Nat → Nat} (h : Six w b X) (hn : b ≠ d) : Six (put6 w d o Y) b X :=
  (((((h.other hn).other hn).other hn).other hn).other hn).other hn
theorem Ext.put6 {a w : World} {b o : Nat} {Y : Nat → Nat} (h : Ext a w) (hb : a.heap.size ≤ b) : Ext a (put6 w b o Y) :=
  (((((h.setCell hb _).setCell hb _).setCell hb _).setCell hb _).setCell hb _).setCell hb _

/-- The 25 values. -/
def dF (n bl ab sz : Nat) (pt : Int) (j : Nat) : Value :=
  if j < 6 then .int .u64 (L n j) else if j < 12 then .int .u64 (L bl (j - 6)) else if j < 18 then .int .u64 (L ab (j - 12)) else if j < 24 then .int .u64 (L sz (j - 18)) else .int .i64 pt
theorem Dk.num {w : World} {b n bl ab sz : Nat} {pt : Int} (h : Dk w b (dF n bl ab sz pt)) : w.cell? ⟨b, 0, none⟩ = some (.int .u64 (L n 0)) ∧ w.cell? ⟨b, 1, none⟩ = some (.int .u64 (L n 1)) ∧ w.cell? ⟨b, 2, none⟩ = some (.int .u64 (L n 2)) ∧ w.cell? ⟨b, 3, none⟩ = some (.int .u64 (L n 3)) ∧ w.cell? ⟨b, 4, none⟩ = some (.int .u64 (L n 4)) ∧ w.cell? ⟨b, 5, none⟩ = some (.int .u64 (L n 5)) :=
  ⟨h.cell 0 (by omega), h.cell 1 (by omega), h.cell 2 (by omega), h.cell 3 (by omega), h.cell 4 (by omega), h.cell 5 (by omega)⟩
theorem Dk.bel {w : World} {b n bl ab sz : Nat} {pt : Int} (h : Dk w b (dF n bl ab sz pt)) : w.cell? ⟨b, 6, none⟩ = some (.int .u64 (L bl 0)) ∧ w.cell? ⟨b, 7, none⟩ = some (.int .u64 (L bl 1)) ∧ w.cell? ⟨b, 8, none⟩ = some (.int .u64 (L bl 2)) ∧ w.cell? ⟨b, 9, none⟩ = some (.int .u64 (L bl 3)) ∧ w.cell? ⟨b, 10, none⟩ = some (.int .u64 (L bl 4)) ∧ w.cell? ⟨b, 11, none⟩ = some (.int .u64 (L bl 5)) :=
  ⟨h.cell 6 (by omega), h.cell 7 (by omega), h.cell 8 (by omega), h.cell 9 (by omega), h.cell 10 (by omega), h.cell 11 (by omega)⟩
theorem Dk.abv {w : World} {b n bl ab sz : Nat} {pt : Int} (h : Dk w b (dF n bl ab sz pt)) : w.cell? ⟨b, 12, none⟩ = some (.int .u64 (L ab 0)) ∧ w.cell? ⟨b, 13, none⟩ = some (.int .u64 (L ab 1)) ∧ w.cell? ⟨b, 14, none⟩ = some (.int .u64 (L ab 2)) ∧ w.cell? ⟨b, 15, none⟩ = some (.int .u64 (L ab 3)) ∧ w.cell? ⟨b, 16, none⟩ = some (.int .u64 (L ab 4)) ∧ w.cell? ⟨b, 17, none⟩ = some (.int .u64 (L ab 5)) :=
  ⟨h.cell 12 (by omega), h.cell 13 (by omega), h.cell 14 (by omega), h.cell 15 (by omega), h.cell 16 (by omega), h.cell 17 (by omega)⟩
theorem Dk.siz {w : World} {b n bl ab sz : Nat} {pt : Int} (h : Dk w b (dF n bl ab sz pt)) : w.cell? ⟨b, 18, none⟩ = some (.int .u64 (L sz 0)) ∧ w.cell? ⟨b, 19, none⟩ = some (.int .u64 (L sz 1)) ∧ w.cell? ⟨b, 20, none⟩ = some (.int .u64 (L sz 2)) ∧ w.cell? ⟨b, 21, none⟩ = some (.int .u64 (L sz 3)) ∧ w.cell? ⟨b, 22, none⟩ = some (.int .u64 (L sz 4)) ∧ w.cell? ⟨b, 23, none⟩ = some (.int .u64 (L sz 5)) :=
  ⟨h.cell 18 (by omega), h.cell 19 (by omega), h.cell 20 (by omega), h.cell 21 (by omega), h.cell 22 (by omega), h.cell 23 (by omega)⟩
theorem Dk.pnt {w : World} {b n bl ab sz : Nat} {pt : Int} (h : Dk w b (dF n bl ab sz pt)) : w.cell? ⟨b, 24, none⟩ = some (.int .i64 pt) := h.cell 24 (by omega)
theorem Dk.putN {w : World} {b n bl ab sz : Nat} {pt : Int} (h : Dk w b (dF n bl ab sz pt)) (y : Nat) : Dk (put6 w b 0 (L y)) b (dF y bl ab sz pt) :=
  (h.put (o := 0) (by omega) (L y)).of_eq fun j hj => by unfold dF; by_cases e : j < 6 <;> simp [e]
theorem Dk.putB {w : World} {b n bl ab sz : Nat} {pt : Int} (h : Dk w b (dF n bl ab sz pt)) (y : Nat) : Dk (put6 w b 6 (L y)) b (dF n y ab sz pt) :=
  (h.put (o := 6) (by omega) (L y)).of_eq fun j hj => by
    unfold dF
    by_cases e1 : j < 6 <;> by_cases e2 : j < 12 <;> by_cases e3 : j < 18 <;> by_cases e4 : j < 24 <;> by_cases e : 6 ≤ j ∧ j < 6 + 6 <;> (first | (exfalso; omega) | ((first | rw [if_pos e] | rw [if_neg e]) <;> simp only [e1, e2, e3, e4, if_true, if_false]))
theorem Dk.putA {w : World} {b n bl ab sz : Nat} {pt : Int} (h : Dk w b (dF n bl ab sz pt)) (y : Nat) : Dk (put6 w b 12 (L y)) b (dF n bl y sz pt) :=
  (h.put (o := 12) (by omega) (L y)).of_eq fun j hj => by
    unfold dF
    by_cases e1 : j < 6 <;> by_cases e2 : j < 12 <;> by_cases e3 : j < 18 <;> by_cases e4 : j < 24 <;> by_cases e : 12 ≤ j ∧ j < 12 + 6 <;> (first | (exfalso; omega) | ((first | rw [if_pos e] | rw [if_neg e]) <;> simp only [e1, e2, e3, e4, if_true, if_false]))
theorem Dk.putS {w : World} {b n bl ab sz : Nat} {pt : Int} (h : Dk w b (dF n bl ab sz pt)) (y : Nat) : Dk (put6 w b 18 (L y)) b (dF n bl ab y pt) :=
  (h.put (o := 18) (by omega) (L y)).of_eq fun j hj => by
    unfold dF
    by_cases e1 : j < 6 <;> by_cases e2 : j < 12 <;> by_cases e3 : j < 18 <;> by_cases e4 : j < 24 <;> by_cases e : 18 ≤ j ∧ j < 18 + 6 <;> (first | (exfalso; omega) | ((first | rw [if_pos e] | rw [if_neg e]) <;> simp only [e1, e2, e3, e4, if_true, if_false]))
theorem Dk.putP {w : World} {b n bl ab sz : Nat} {pt : Int} (h : Dk w b (dF n bl ab sz pt)) (q : Int) : Dk (w.setCell ⟨b, 24, none⟩ (.int .i64 q)) b (dF n bl ab sz q) :=
  (h.set (k := 24) (by omega) (.int .i64 q)).of_eq fun j hj => by
    unfold dF
    by_cases e : j = 24
    · subst e; simp
    · rw [if_neg e]
      by_cases e1 : j < 6 <;> by_cases e2 : j < 12 <;> by_cases e3 : j < 18 <;> by_cases e4 : j < 24 <;> simp [e1, e2, e3, e4] <;> omega
/-- What lies modulo 2^384 has the same places. -/
theorem Dk.same {w : World} {b n bl ab sz n' bl' ab' sz' : Nat} {pt : Int} (h : Dk w b (dF n bl ab sz pt)) (h1 : ∀ j, j < 6 → L n' j = L n j) (h2 : ∀ j, j < 6 → L bl' j = L bl j) (h3 : ∀ j, j < 6 → L ab' j = L ab j) (h4 : ∀ j, j < 6 → L sz' j = L sz j) : Dk w b (dF n' bl' ab' sz' pt) :=
  h.of_eq fun j hj => by
    unfold dF
    by_cases e1 : j < 6
    · simp [e1, h1 j e1]
    · by_cases e2 : j < 12
      · simp [e1, e2, h2 (j - 6) (by omega)]
      · by_cases e3 : j < 18
        · simp [e1, e2, e3, h3 (j - 12) (by omega)]
        · by_cases e4 : j < 24
          · simp [e1, e2, e3, e4, h4 (j - 18) (by omega)]
          · simp [e1, e2, e3, e4]
theorem dk_new (w : World) (n bl ab sz : Nat) (pt : Int) (T : TypeId) : Dk (w.alloc (.cells #[.int .u64 (L n 0), .int .u64 (L n 1), .int .u64 (L n 2), .int .u64 (L n 3), .int .u64 (L n 4), .int .u64 (L n 5), .int .u64 (L bl 0), .int .u64 (L bl 1), .int .u64 (L bl 2), .int .u64 (L bl 3), .int .u64 (L bl 4), .int .u64 (L bl 5), .int .u64 (L ab 0), .int .u64 (L ab 1), .int .u64 (L ab 2), .int .u64 (L ab 3), .int .u64 (L ab 4), .int .u64 (L ab 5), .int .u64 (L sz 0), .int .u64 (L sz 1), .int .u64 (L sz 2), .int .u64 (L sz 3), .int .u64 (L sz 4), .int .u64 (L sz 5), .int .i64 pt] T)) w.heap.size (dF n bl ab sz pt) where
  cell := fun j hj => by
    have : j = 0 ∨ j = 1 ∨ j = 2 ∨ j = 3 ∨ j = 4 ∨ j = 5 ∨ j = 6 ∨ j = 7 ∨ j = 8 ∨ j = 9 ∨ j = 10 ∨ j = 11 ∨ j = 12 ∨ j = 13 ∨ j = 14 ∨ j = 15 ∨ j = 16 ∨ j = 17 ∨ j = 18 ∨ j = 19 ∨ j = 20 ∨ j = 21 ∨ j = 22 ∨ j = 23 ∨ j = 24 := by omega
    rcases this with rfl | rfl | rfl | rfl | rfl | rfl | rfl | rfl | rfl | rfl | rfl | rfl | rfl | rfl | rfl | rfl | rfl | rfl | rfl | rfl | rfl | rfl | rfl | rfl | rfl <;> simp [go_sem, dF]
  froz := fun j => by simp [go_sem]
end Go.Proofs.YtogfiekbikechaaGreatDoor

namespace Go.Proofs.YtogfiekbikechaaGreatDoor
open Go

section
variable {P : Program} {ops : Array Oper} {Q : Exit → Act → World → Prop} {md : Region.Mode} {T : World → Prop} {s : Nat}

/-- What is listed has what it waits for listed. -/
def ClosedL (md : Region.Mode) (ops : Array Oper) (listed : Array Bool) : Prop :=
  ∀ (j : Nat) (o : Oper), ops[j]? = some o → listed.getD j false = true → ∀ e ∈ o.after, Region.binds md e = true → listed.getD e.on false = true
theorem closed_set {listed : Array Bool} {i : Nat} (h : ClosedL md ops listed) (hr : i ∈ Region.ready md ops listed) : ClosedL md ops (listed.setIfInBounds i true) := by
  intro j o hj hl e he hb
  by_cases hij : i = j
  · subst hij
    obtain ⟨_, o', ho', hall⟩ := mem_ready.1 hr
    rw [hj] at ho'; cases ho'
    exact getD_set_true (hall e he hb)
  · rw [getD_set_ne false hij] at hl
    exact getD_set_true (h j o hj hl e he hb)
theorem closed_start (n : Nat) : ClosedL md ops (Array.replicate n false) := by
  intro j o hj hl
  exfalso
  rw [Array.getD_eq_getD_getElem?, Array.getElem?_replicate] at hl
  split at hl <;> simp at hl
/-- All that the operations marked wait for, one behind the other from place n downwards. -/
def marksL (md : Region.Mode) (ops : Array Oper) : Nat → List Nat → List Nat
  | 0, m => m
  | j + 1, m => marksL md ops j (if m.contains j then (match ops[j]? with | some o => m ++ (o.after.toList.filter (Region.binds md)).map (·.on) | none => m) else m)
theorem marks_listed {listed : Array Bool} (h : ClosedL md ops listed) : ∀ (n : Nat) (m : List Nat), (∀ i ∈ m, listed.getD i false = true) → ∀ i ∈ marksL md ops n m, listed.getD i false = true
  | 0, _, hm => hm
  | j + 1, m, hm => by
    refine marks_listed h j _ ?_
    split
    · rename_i hc
      have hj : j ∈ m := by simpa using hc
      split
      · rename_i o ho
        intro i hi
        rcases List.mem_append.1 hi with hi | hi
        · exact hm i hi
        · obtain ⟨e, he, rfl⟩ := List.mem_map.1 hi
          obtain ⟨he1, he2⟩ := List.mem_filter.1 he
          exact h j o ho (hm j hj) e (by simpa using he1) he2
      · exact hm
    · exact hm
/-- Operation s waits for operation i. -/
def beforeL (md : Region.Mode) (ops : Array Oper) (s i : Nat) : Bool := i != s && (marksL md ops (s + 1) [s]).contains i
theorem not_yet {listed : Array Bool} {i : Nat} (h : ClosedL md ops listed) (hb : beforeL md ops s i = true) (hi : listed.getD i false = false) : listed.getD s false = false := by
  cases e : listed.getD s false with
  | false => rfl
  | true =>
    exfalso
    unfold beforeL at hb
    rw [Bool.and_eq_true] at hb
    have := marks_listed h (s + 1) [s] (by intro k hk; simp at hk; subst hk; exact e) i (by simpa using hb.2)
    rw [hi] at this; cases this
theorem getD_both {l : Array Bool} {i : Nat} (h : l.getD i true = false) : l.getD i false = false := by
  rcases Nat.lt_or_ge i l.size with h' | h'
  · simp [h'] at h ⊢; exact h
  · simp [Array.getElem?_eq_none h'] at h

/-- Whatever order is picked from here on; T holds behind every operation till s has come up. -/
def wpAnyS (P : Program) (md : Region.Mode) (ops : Array Oper) (Q : Exit → Act → World → Prop) (T : World → Prop) (s : Nat) : Nat → Array Bool → Act → World → Prop
  | 0, listed, a, w => Region.ready md ops listed = [] ∧ Q .normal a w
  | fuel + 1, listed, a, w =>
    (Region.ready md ops listed = [] → Q .normal a w) ∧
    ∀ i ∈ Region.ready md ops listed, wpOp P ops Q i (fun a' w' => ((listed.setIfInBounds i true).getD s false = false → T w') ∧ wpAnyS P md ops Q T s fuel (listed.setIfInBounds i true) a' w') a w
theorem wpAny_of_S : ∀ (fuel : Nat) (listed : Array Bool) (a : Act) (w : World), wpAnyS P md ops Q T s fuel listed a w → wpAny P md ops Q fuel listed a w
  | 0, _, _, _, h => h
  | fuel + 1, _, _, _, h => ⟨h.1, fun i hi => wpOp_mono (fun a' w' h' => wpAny_of_S fuel _ a' w' h'.2) (h.2 i hi)⟩
theorem wpAnyS_first {i : Nat} {oi : Oper} {v : Value} (hi : ops[i]? = some oi) (hsel : ∀ (j : Nat) (o : Oper) cs b, ops[j]? = some o → o.op ≠ .select cs b)
    (hQ : ∀ c a w, Q (.panic c) (a.put oi.dst v) w → Q (.panic c) a w) (hb : beforeL md ops s i = true) :
    ∀ (fuel : Nat) (listed : Array Bool) (a : Act) (w : World), ClosedL md ops listed →
      (∀ j oj, ops[j]? = some oj → j ≠ i → listed.getD j true = false → (∀ e ∈ oj.after, Region.binds md e = true → e.on ≠ i) → oi.apart ops oj = true) →
      i ∈ Region.ready md ops listed → YieldsIf P ops T oi v a → T w →
      wpAnyS P md ops Q T s fuel (listed.setIfInBounds i true) (a.put oi.dst v) w → wpAnyS P md ops Q T s (fuel + 1) listed a w := by
  have his : i ≠ s := by
    unfold beforeL at hb; rw [Bool.and_eq_true] at hb; simpa using hb.1
  intro fuel
  induction fuel with
  | zero =>
    intro listed a w _ _ hr hy hT H
    refine ⟨fun h => (by rw [h] at hr; cases hr), fun j hj => ?_⟩
    by_cases hji : j = i
    · subst hji; exact hy.wpOp hi hT ⟨fun _ => hT, H⟩
    · have := ready_mono hj hji
      rw [H.1] at this
      cases this
  | succ fuel ih =>
    intro listed a w hcl hfree hr hy hT H
    refine ⟨fun h => (by rw [h] at hr; cases hr), fun j hj => ?_⟩
    by_cases hji : j = i
    · subst hji; exact hy.wpOp hi hT ⟨fun _ => hT, H⟩
    · have h1 := H.2 j (ready_mono hj hji)
      have hij : i ≠ j := fun e => hji e.symm
      obtain ⟨hjun, oj, hoj, hall⟩ := mem_ready.1 hj
      have hun0 := (mem_ready.1 hr).1
      have hnot : ∀ e ∈ oj.after, Region.binds md e = true → e.on ≠ i := fun e he hb' heq => by
        have g1 := hall e he hb'
        rw [heq, getD_both hun0] at g1; cases g1
      have hcl2 := closed_set hcl hj
      have hns : (listed.setIfInBounds j true).getD s false = false := not_yet hcl2 hb (by rw [getD_set_ne false hji]; exact getD_both hun0)
      have h2 := wpOp_putIf hoj (hfree j oj hoj hji hjun hnot) (fun cs b => hsel i oi cs b hi) (fun cs b => hsel j oj cs b hoj) hQ hy h1
      have hfree' : ∀ k ok, ops[k]? = some ok → k ≠ i → (listed.setIfInBounds j true).getD k true = false →
          (∀ e ∈ ok.after, Region.binds md e = true → e.on ≠ i) → oi.apart ops ok = true := fun k ok hk hki hun hno => by
        refine hfree k ok hk hki ?_ hno
        by_cases hjk : j = k
        · subst hjk; exact hjun
        · rw [getD_set_ne true hjk] at hun; exact hun
      refine wpOp_mono (fun a' w' h3 => ?_) h2
      have hT' : T w' := h3.2.1 (by rw [Array.setIfInBounds_comm _ _ hij, getD_set_ne false his]; exact hns)
      refine ⟨fun _ => hT', ih (listed.setIfInBounds j true) a' w' hcl2 hfree' (ready_mono hr hij) h3.1 hT' ?_⟩
      rw [Array.setIfInBounds_comm _ _ hji]
      exact h3.2.2

/-- The rest of the region, from a list that is closed. -/
def GoS (P : Program) (md : Region.Mode) (ops : Array Oper) (Q : Exit → Act → World → Prop) (T : World → Prop) (s fuel : Nat) (listed : Array Bool) (a : Act) (w : World) : Prop :=
  ClosedL md ops listed → wpAnyS P md ops Q T s fuel listed a w
theorem GoS.take {i : Nat} {oi : Oper} {v : Value} {fuel : Nat} {listed : Array Bool} {a : Act} {w : World} (hi : ops[i]? = some oi)
    (hs : Region.noSelect ops = true) (hf : Region.free md ops listed i = true) (hr : (Region.ready md ops listed).contains i = true) (hb : beforeL md ops s i = true)
    (hQ : ∀ c a w, Q (.panic c) (a.put oi.dst v) w → Q (.panic c) a w) (hy : YieldsIf P ops T oi v a) (hT : T w)
    (h : GoS P md ops Q T s fuel (listed.setIfInBounds i true) (a.put oi.dst v) w) : GoS P md ops Q T s (fuel + 1) listed a w := fun hcl =>
  have hr' : i ∈ Region.ready md ops listed := by simpa using hr
  wpAnyS_first hi (Region.noSelect_spec hs) hQ hb fuel listed a w hcl (Region.free_spec hi hf) hr' hy hT (h (closed_set hcl hr'))
theorem wpAnyS_pure {i : Nat} {oi : Oper} {v : Value} (hi : ops[i]? = some oi) (hsel : ∀ (j : Nat) (o : Oper) cs b, ops[j]? = some o → o.op ≠ .select cs b)
    (hQ : ∀ c a w, Q (.panic c) (a.put oi.dst v) w → Q (.panic c) a w) (his : i ≠ s) :
    ∀ (fuel : Nat) (listed : Array Bool) (a : Act) (w : World),
      (∀ j oj, ops[j]? = some oj → j ≠ i → listed.getD j true = false → (∀ e ∈ oj.after, Region.binds md e = true → e.on ≠ i) → oi.apart ops oj = true) →
      i ∈ Region.ready md ops listed → YieldsIf P ops (fun _ => True) oi v a → (listed.getD s false = false → T w) →
      wpAnyS P md ops Q T s fuel (listed.setIfInBounds i true) (a.put oi.dst v) w → wpAnyS P md ops Q T s (fuel + 1) listed a w := by
  intro fuel
  induction fuel with
  | zero =>
    intro listed a w _ hr hy hT H
    refine ⟨fun h => (by rw [h] at hr; cases hr), fun j hj => ?_⟩
    by_cases hji : j = i
    · subst hji; exact hy.wpOp hi trivial ⟨fun e => hT (by rw [getD_set_ne false his] at e; exact e), H⟩
    · have := ready_mono hj hji
      rw [H.1] at this
      cases this
  | succ fuel ih =>
    intro listed a w hfree hr hy hT H
    refine ⟨fun h => (by rw [h] at hr; cases hr), fun j hj => ?_⟩
    by_cases hji : j = i
    · subst hji; exact hy.wpOp hi trivial ⟨fun e => hT (by rw [getD_set_ne false his] at e; exact e), H⟩
    · have h1 := H.2 j (ready_mono hj hji)
      have hij : i ≠ j := fun e => hji e.symm
      obtain ⟨hjun, oj, hoj, hall⟩ := mem_ready.1 hj
      have hun0 := (mem_ready.1 hr).1
      have hnot : ∀ e ∈ oj.after, Region.binds md e = true → e.on ≠ i := fun e he hb' heq => by
        have g1 := hall e he hb'
        rw [heq, getD_both hun0] at g1; cases g1
      have h2 := wpOp_putIf hoj (hfree j oj hoj hji hjun hnot) (fun cs b => hsel i oi cs b hi) (fun cs b => hsel j oj cs b hoj) hQ hy h1
      have hfree' : ∀ k ok, ops[k]? = some ok → k ≠ i → (listed.setIfInBounds j true).getD k true = false →
          (∀ e ∈ ok.after, Region.binds md e = true → e.on ≠ i) → oi.apart ops ok = true := fun k ok hk hki hun hno => by
        refine hfree k ok hk hki ?_ hno
        by_cases hjk : j = k
        · subst hjk; exact hjun
        · rw [getD_set_ne true hjk] at hun; exact hun
      refine wpOp_mono (fun a' w' h3 => ?_) h2
      have hT' : (listed.setIfInBounds j true).getD s false = false → T w' := fun e => h3.2.1 (by rw [Array.setIfInBounds_comm _ _ hij, getD_set_ne false his]; exact e)
      refine ⟨hT', ih (listed.setIfInBounds j true) a' w' hfree' (ready_mono hr hij) h3.1 hT' ?_⟩
      rw [Array.setIfInBounds_comm _ _ hji]
      exact h3.2.2
/-- An operation that yields its value in every world. -/
theorem GoS.pure {i : Nat} {oi : Oper} {v : Value} {fuel : Nat} {listed : Array Bool} {a : Act} {w : World} (hi : ops[i]? = some oi)
    (hs : Region.noSelect ops = true) (hf : Region.free md ops listed i = true) (hr : (Region.ready md ops listed).contains i = true) (hb : (i != s) = true)
    (hQ : ∀ c a w, Q (.panic c) (a.put oi.dst v) w → Q (.panic c) a w) (hy : YieldsIf P ops (fun _ => True) oi v a) (hT : listed.getD s false = false → T w)
    (h : GoS P md ops Q T s fuel (listed.setIfInBounds i true) (a.put oi.dst v) w) : GoS P md ops Q T s (fuel + 1) listed a w := fun hcl =>
  have hr' : i ∈ Region.ready md ops listed := by simpa using hr
  wpAnyS_pure hi (Region.noSelect_spec hs) hQ (by simpa using hb) fuel listed a w (Region.free_spec hi hf) hr' hy hT (h (closed_set hcl hr'))
/-- .. behind the first store. -/
theorem GoS.behind {i : Nat} {oi : Oper} {v : Value} {fuel : Nat} {listed : Array Bool} {a : Act} {w : World} (hi : ops[i]? = some oi)
    (hs : Region.noSelect ops = true) (hf : Region.free md ops listed i = true) (hr : (Region.ready md ops listed).contains i = true) (hb : (i != s) = true)
    (hQ : ∀ c a w, Q (.panic c) (a.put oi.dst v) w → Q (.panic c) a w) (hy : YieldsIf P ops (fun _ => True) oi v a) (hl : listed.getD s false = true)
    (h : GoS P md ops Q T s fuel (listed.setIfInBounds i true) (a.put oi.dst v) w) : GoS P md ops Q T s (fuel + 1) listed a w :=
  GoS.pure hi hs hf hr hb hQ hy (fun e => (by rw [hl] at e; cases e)) h
/-- A single operation comes up (a call): T is shown anew behind it. -/
theorem GoS.one {i : Nat} {o : Oper} {fuel : Nat} {listed : Array Bool} {a : Act} {w : World} (hr : Region.ready md ops listed = [i]) (ho : ops[i]? = some o)
    (h : ∀ K' : Act → World → Prop, Shut (∀ a w, T w → (T w → GoS P md ops Q T s fuel (listed.setIfInBounds i true) a w) → K' a w) → if Region.wanted o (yielded ops a.tmps) = true then Oper.wp P o a w K' Q else K' (a.put o.dst undef) w) :
    GoS P md ops Q T s (fuel + 1) listed a w := fun hcl => by
  refine ⟨fun h0 => (by rw [hr] at h0; cases h0), fun j hj => ?_⟩
  have hj' := hj
  rw [hr] at hj'
  obtain rfl : j = i := by simpa using hj'
  exact wpOp_step ho (fun K' hK => h K' (fun a w hT hW => hK a w ⟨fun _ => hT, hW hT (closed_set hcl hj)⟩))
/-- A single operation comes up: the first store, or one behind it. -/
theorem GoS.store {i : Nat} {o : Oper} {fuel : Nat} {listed : Array Bool} {a : Act} {w : World} (hr : Region.ready md ops listed = [i]) (ho : ops[i]? = some o) (hl : (listed.setIfInBounds i true).getD s false = true)
    (h : ∀ K' : Act → World → Prop, Shut (∀ a w, GoS P md ops Q T s fuel (listed.setIfInBounds i true) a w → K' a w) → if Region.wanted o (yielded ops a.tmps) = true then Oper.wp P o a w K' Q else K' (a.put o.dst undef) w) :
    GoS P md ops Q T s (fuel + 1) listed a w := fun hcl => by
  refine ⟨fun h0 => (by rw [hr] at h0; cases h0), fun j hj => ?_⟩
  have hj' := hj
  rw [hr] at hj'
  obtain rfl : j = i := by simpa using hj'
  exact wpOp_step ho (fun K' hK => h K' (fun a w hW => hK a w ⟨fun e => (by rw [hl] at e; cases e), hW (closed_set hcl hj)⟩))
theorem GoS.done {fuel : Nat} {listed : Array Bool} {a : Act} {w : World} (hr : Region.ready md ops listed = []) (h : Q .normal a w) : GoS P md ops Q T s fuel listed a w := fun _ => by
  cases fuel with
  | zero => exact ⟨hr, h⟩
  | succ f => exact ⟨fun _ => h, by rw [hr]; simp⟩
theorem wp_region_S {id : Nat} {a : Act} {w : World} (T : World → Prop) (s : Nat) (hm : P.follows .mixedOrders = true)
    (h : GoS P .any ops Q T s ops.size (Array.replicate ops.size false) a w.drew) : (Code.region id ops true).wp P Q a w :=
  wp_region_any hm (wpAny_of_S _ _ _ _ (h (closed_start _)))
end
end Go.Proofs.YtogfiekbikechaaGreatDoor

namespace Go.Proofs.YtogfiekbikechaaGreatDoor

/-- The exponent (from 0 on) and the mantissa of the real with an index. -/
def expoN (r : Nat) : Nat := r / 8388608 - 1
def mantN (r : Nat) : Nat := r - expoN r * 8388608
def ordN (r : Nat) : Nat := mantN r * 2 ^ expoN r
/-- Twice the middle between a magnitude and the next one. -/
def midN (r : Nat) : Nat := (2 * mantN r + 1) * 2 ^ expoN r

theorem mant_split (r : Nat) : r = mantN r + expoN r * 8388608 := by
  unfold mantN expoN; omega
theorem mant_lt (r : Nat) : mantN r < 16777216 := by unfold mantN expoN; omega
theorem mant_ge {r : Nat} (h : 0 < expoN r) : 8388608 ≤ mantN r := by unfold mantN expoN at *; omega
theorem mant_par (r : Nat) : mantN r % 2 = r % 2 := by have := mant_split r; omega
theorem mant_of {m x : Nat} (h : m < 16777216) (h2 : 8388608 ≤ m ∨ x = 0) : mantN (m + x * 8388608) = m ∧ expoN (m + x * 8388608) = x := by
  unfold mantN expoN; omega
theorem mant_of_top {x : Nat} : mantN (16777216 + x * 8388608) = 8388608 ∧ expoN (16777216 + x * 8388608) = x + 1 := by
  unfold mantN expoN; omega
theorem succ_cases (r : Nat) : (mantN (r + 1) = mantN r + 1 ∧ expoN (r + 1) = expoN r) ∨ (mantN r = 16777215 ∧ mantN (r + 1) = 8388608 ∧ expoN (r + 1) = expoN r + 1) := by
  unfold mantN expoN; omega
theorem ord_succ (r : Nat) : ordN (r + 1) = ordN r + 2 ^ expoN r := by
  unfold ordN
  rcases succ_cases r with ⟨h1, h2⟩ | ⟨h1, h2, h3⟩
  · rw [h1, h2, Nat.succ_mul]
  · rw [h1, h2, h3, Nat.pow_succ]; omega
theorem mid_eq (r : Nat) : midN r = 2 * ordN r + 2 ^ expoN r := by
  unfold midN ordN; rw [Nat.add_mul, Nat.mul_assoc, Nat.one_mul]
theorem pow_pos2 (k : Nat) : 0 < 2 ^ k := Nat.pow_pos (by omega)
theorem ord_zero : ordN 0 = 0 := by decide
theorem ord_lt_succ (r : Nat) : ordN r < ordN (r + 1) := by rw [ord_succ]; have := pow_pos2 (expoN r); omega
theorem ord_lt {r s : Nat} (h : r < s) : ordN r < ordN s := by
  induction s with
  | zero => omega
  | succ s ih =>
    by_cases e : r = s
    · subst e; exact ord_lt_succ r
    · exact Nat.lt_trans (ih (by omega)) (ord_lt_succ s)
theorem ord_le {r s : Nat} (h : r ≤ s) : ordN r ≤ ordN s := by
  rcases Nat.lt_or_eq_of_le h with h | h
  · exact Nat.le_of_lt (ord_lt h)
  · subst h; exact Nat.le_refl _
theorem mid_two (r : Nat) : midN r = ordN r + ordN (r + 1) := by rw [mid_eq, ord_succ]; omega
theorem mid_gt (r : Nat) : 2 * ordN r < midN r := by rw [mid_eq]; have := pow_pos2 (expoN r); omega
theorem mid_lt (r : Nat) : midN r < 2 * ordN (r + 1) := by rw [mid_two]; have := ord_lt_succ r; omega
theorem mid_mono {r s : Nat} (h : r < s) : midN r < midN s := by
  rw [mid_two, mid_two]
  have := ord_lt h
  have := ord_le (show r + 1 ≤ s + 1 by omega)
  omega
theorem mid_mono_le {r s : Nat} (h : r ≤ s) : midN r ≤ midN s := by
  rcases Nat.lt_or_eq_of_le h with h | h
  · exact Nat.le_of_lt (mid_mono h)
  · subst h; exact Nat.le_refl _

/-- r is the index of the magnitude nearest to P / (2 D) (in units of 2^-150): the even one of two that are equally near. -/
def Near (P D r : Nat) : Prop := (P < midN r * D ∨ P = midN r * D ∧ r % 2 = 0) ∧ (r = 0 ∨ midN (r - 1) * D < P ∨ P = midN (r - 1) * D ∧ r % 2 = 0)

theorem near_mono {P P' D r s : Nat} (hD : 0 < D) (hP : P ≤ P') (hr : Near P D r) (hs : Near P' D s) : r ≤ s := by
  rcases Nat.lt_or_ge s r with h | h
  · exfalso
    have h1 : midN s * D ≤ midN (r - 1) * D := Nat.mul_le_mul_right _ (mid_mono_le (by omega))
    obtain ⟨_, hb⟩ := hr
    obtain ⟨ha, _⟩ := hs
    rcases hb with hb | hb | ⟨hb, hp⟩
    · omega
    · rcases ha with ha | ⟨ha, _⟩ <;> omega
    · rcases ha with ha | ⟨ha, hq⟩
      · omega
      · by_cases h3 : s < r - 1
        · have := Nat.mul_lt_mul_of_pos_right (mid_mono h3) hD
          omega
        · omega
  · exact h
theorem near_unique {P D r s : Nat} (hD : 0 < D) (hr : Near P D r) (hs : Near P D s) : r = s :=
  Nat.le_antisymm (near_mono hD (Nat.le_refl _) hr hs) (near_mono hD (Nat.le_refl _) hs hr)
theorem near_ord {D : Nat} (hD : 0 < D) (r : Nat) : Near (2 * ordN r * D) D r := by
  refine ⟨.inl (Nat.mul_lt_mul_of_pos_right (mid_gt r) hD), ?_⟩
  by_cases h : r = 0
  · exact .inl h
  · refine .inr (.inl (Nat.mul_lt_mul_of_pos_right ?_ hD))
    have := mid_lt (r - 1)
    rwa [Nat.sub_add_cancel (by omega)] at this
/-- What lies strictly between the middles below and above is rounded to the real between them; a middle itself to the even one. -/
theorem near_of {P D r : Nat} (h1 : P < midN r * D ∨ P = midN r * D ∧ r % 2 = 0) (h2 : 2 * ordN r * D ≤ P) (hD : 0 < D) : Near P D r := by
  refine ⟨h1, ?_⟩
  by_cases h : r = 0
  · exact .inl h
  · refine .inr (.inl (Nat.lt_of_lt_of_le (Nat.mul_lt_mul_of_pos_right ?_ hD) h2))
    have := mid_lt (r - 1)
    rwa [Nat.sub_add_cancel (by omega)] at this
theorem near_of_up {P D r : Nat} (h1 : midN r * D < P ∨ P = midN r * D ∧ r % 2 = 1) (h2 : P ≤ 2 * ordN (r + 1) * D) (hD : 0 < D) : Near P D (r + 1) := by
  refine ⟨.inl (Nat.lt_of_le_of_lt h2 (Nat.mul_lt_mul_of_pos_right (mid_gt _) hD)), .inr ?_⟩
  rw [Nat.add_sub_cancel]
  rcases h1 with h | ⟨h, h'⟩
  · exact .inl h
  · exact .inr ⟨h, by omega⟩
theorem near_scale {P D r k : Nat} (hk : 0 < k) : Near (P * k) (D * k) r ↔ Near P D r := by
  unfold Near
  rw [← Nat.mul_assoc, ← Nat.mul_assoc, Nat.mul_lt_mul_right hk, Nat.mul_lt_mul_right hk, Nat.mul_left_inj (by omega), Nat.mul_left_inj (by omega)]
end Go.Proofs.YtogfiekbikechaaGreatDoor

namespace Go.Proofs.YtogfiekbikechaaGreatDoor

theorem nb_bounds {n : Nat} (h : n ≠ 0) : 1 ≤ nb n ∧ 2 ^ (nb n - 1) ≤ n ∧ n < 2 ^ nb n := by
  unfold nb; rw [if_neg h]
  exact ⟨by omega, by simpa using Nat.log2_self_le h, Nat.lt_log2_self⟩
theorem nb_of_lt {n k : Nat} (h : n < 2 ^ k) : nb n ≤ k := by
  by_cases h0 : n = 0
  · subst h0; unfold nb; simp
  · obtain ⟨a, b, c⟩ := nb_bounds h0
    have := (Nat.pow_lt_pow_iff_right (show 1 < 2 by omega)).1 (Nat.lt_of_le_of_lt b h)
    omega
theorem nb_of_ge {n k : Nat} (h : 2 ^ k ≤ n) : k + 1 ≤ nb n := by
  have h0 : n ≠ 0 := by have := pow_pos2 k; omega
  obtain ⟨a, b, c⟩ := nb_bounds h0
  have := (Nat.pow_lt_pow_iff_right (show 1 < 2 by omega)).1 (Nat.lt_of_le_of_lt h c)
  omega
theorem lt_of_nb {n k : Nat} (h : nb n ≤ k) : n < 2 ^ k := by
  by_cases h0 : n = 0
  · subst h0; exact pow_pos2 k
  · exact Nat.lt_of_lt_of_le (nb_bounds h0).2.2 (Nat.pow_le_pow_right (by omega) h)

/-- A mantissa and an exponent as an index. -/
def Is (q : Nat × Int) (r : Nat) : Prop := (q.1 = 0 ∧ r = 0) ∨ (q.1 ≠ 0 ∧ q.1 = mantN r ∧ q.2 = (expoN r : Int) - 150)
theorem is_of {M X : Nat} {x : Int} (hx : x = (X : Int) - 150) (h : M < 16777216) (h2 : 8388608 ≤ M ∨ X = 0) : Is (M, x) (M + X * 8388608) := by
  obtain ⟨a, b⟩ := mant_of h h2
  by_cases h0 : M = 0
  · refine .inl ⟨h0, ?_⟩; omega
  · exact .inr ⟨h0, a.symm, by rw [b]; exact hx⟩

theorem short_near (man : Nat) (exp : Int) (more : Bool) (s den P : Nat) (hden : 0 < den) (hs : 0 ≤ exp + 151 + s) (hm : man < 18446744073709551616)
    (h1 : man * (2 ^ (exp + 151 + s).toNat * den) ≤ P) (h2 : P < (man + 1) * (2 ^ (exp + 151 + s).toNat * den))
    (h3 : more = false → P = man * (2 ^ (exp + 151 + s).toNat * den)) (h3' : more = true → P ≠ man * (2 ^ (exp + 151 + s).toNat * den)) (h4 : more = true → 33554432 ≤ man) :
    ∃ r, Near P (2 ^ s * den) r ∧ Is (shortV man exp more) r := by
  have hD : 0 < 2 ^ s * den := Nat.mul_pos (pow_pos2 s) hden
  have n64 : nb man ≤ 64 := nb_of_lt (k := 64) (by omega)
  generalize hG : 2 ^ (exp + 151 + s).toNat * den = G at *
  unfold shortV
  simp only []
  by_cases c1 : max ((nb man : Int) - 24) (-150 - exp) ≤ 0
  · rw [if_pos c1]
    have hmore : more = false := by
      cases more with
      | false => rfl
      | true =>
        exfalso
        have := nb_of_ge (n := man) (k := 25) (by have := h4 rfl; omega)
        omega
    have hP := h3 hmore
    obtain ⟨k, hk⟩ : ∃ k : Nat, (-max ((nb man : Int) - 24) (-150 - exp)).toNat = k := ⟨_, rfl⟩
    rw [hk]
    have hM : man * 2 ^ k < 16777216 := by
      have a := lt_of_nb (n := man) (k := 24 - k) (by omega)
      have : man * 2 ^ k < 2 ^ (24 - k) * 2 ^ k := Nat.mul_lt_mul_of_pos_right a (pow_pos2 k)
      rw [← Nat.pow_add, show 24 - k + k = 24 by omega] at this
      exact this
    obtain ⟨X, hX⟩ : ∃ X : Nat, exp + max ((nb man : Int) - 24) (-150 - exp) = (X : Int) - 150 := ⟨(exp + max ((nb man : Int) - 24) (-150 - exp) + 150).toNat, by omega⟩
    by_cases h0 : man = 0
    · refine ⟨0, ?_, .inl ⟨by simp [h0], rfl⟩⟩
      have := near_ord hD 0
      rw [ord_zero] at this
      rw [hP, h0]; simpa using this
    have h23 : 8388608 ≤ man * 2 ^ k ∨ X = 0 := by
      by_cases e : X = 0
      · exact .inr e
      · left
        obtain ⟨a, b, _⟩ := nb_bounds h0
        have e2 : nb man - 1 = 23 - k := by omega
        rw [e2] at b
        have : 2 ^ (23 - k) * 2 ^ k ≤ man * 2 ^ k := Nat.mul_le_mul_right _ b
        rw [← Nat.pow_add, show 23 - k + k = 23 by omega] at this
        exact this
    refine ⟨_, ?_, is_of hX hM h23⟩
    have e : P = 2 * ordN (man * 2 ^ k + X * 8388608) * (2 ^ s * den) := by
      obtain ⟨a, b⟩ := mant_of hM h23
      unfold ordN
      rw [a, b, hP, ← hG, show (exp + 151 + s).toNat = 1 + k + X + s by omega, Nat.pow_add, Nat.pow_add, Nat.pow_add]
      simp only [Nat.pow_one, Nat.mul_assoc, Nat.mul_comm, Nat.mul_left_comm]
    rw [e]; exact near_ord hD _
  rw [if_neg c1]
  by_cases c2 : 64 < max ((nb man : Int) - 24) (-150 - exp)
  · rw [if_pos c2]
    refine ⟨0, near_of (.inl ?_) (by rw [ord_zero]; simp) hD, .inl ⟨rfl, rfl⟩⟩
    have hx : exp + 151 + s + 64 ≤ s := by omega
    have : (man + 1) * G ≤ 2 ^ 64 * G := Nat.mul_le_mul_right _ (by omega)
    have e : 2 ^ 64 * G ≤ 2 ^ s * den := by
      rw [← hG, ← Nat.mul_assoc, ← Nat.pow_add]
      exact Nat.mul_le_mul_right _ (Nat.pow_le_pow_right (by omega) (by omega))
    have e2 : midN 0 = 1 := by decide
    rw [e2]; omega
  rw [if_neg c2]
  obtain ⟨d, hd⟩ : ∃ d : Nat, (max ((nb man : Int) - 24) (-150 - exp)).toNat = d := ⟨_, rfl⟩
  have hdi : max ((nb man : Int) - 24) (-150 - exp) = (d : Int) := by omega
  rw [hd]
  simp only [hdi]
  have d1 : 1 ≤ d := by omega
  obtain ⟨X, hX⟩ : ∃ X : Nat, exp + d = (X : Int) - 150 := ⟨(exp + d + 150).toNat, by omega⟩
  have hpow : 2 ^ d = 2 * 2 ^ (d - 1) := by
    conv => lhs; rw [show d = d - 1 + 1 by omega, Nat.pow_succ]
    omega
  have hsplit := Nat.div_add_mod man (2 ^ d)
  have hmodlt := Nat.mod_lt man (pow_pos2 d)
  generalize hk : man / 2 ^ d = kept at *
  generalize hr : man % 2 ^ d = dropped at *
  generalize hh : 2 ^ (d - 1) = half at *
  have hM : kept < 16777216 := by
    have a := lt_of_nb (n := man) (k := 24 + d) (by omega)
    rw [← hk]
    refine Nat.div_lt_of_lt_mul ?_
    rw [Nat.pow_add, Nat.mul_comm] at a
    exact a
  have h23 : 8388608 ≤ kept ∨ X = 0 := by
    by_cases e : X = 0
    · exact .inr e
    · left
      have hn : nb man = 24 + d := by omega
      have h0 : man ≠ 0 := by intro h0; rw [h0] at hn; unfold nb at hn; simp at hn; omega
      obtain ⟨a, b, _⟩ := nb_bounds h0
      rw [hn, show 24 + d - 1 = 23 + d by omega, Nat.pow_add] at b
      rw [← hk]
      exact (Nat.le_div_iff_mul_le (pow_pos2 d)).2 b
  obtain ⟨ma, mb⟩ := mant_of hM h23
  have hG2 : 2 ^ d * G = 2 * (2 ^ X * (2 ^ s * den)) := by
    rw [← hG, ← Nat.mul_assoc, ← Nat.pow_add, show d + (exp + 151 + s).toNat = 1 + X + s by omega, Nat.pow_add, Nat.pow_add]
    simp only [Nat.pow_one, Nat.mul_assoc]
  have E0 : ordN (kept + X * 8388608) * (2 ^ s * den) = kept * (2 ^ X * (2 ^ s * den)) := by
    unfold ordN; rw [ma, mb, Nat.mul_assoc]
  have E2 : 2 * ordN (kept + X * 8388608) * (2 ^ s * den) = kept * (2 ^ d * G) := by
    rw [hG2, Nat.mul_assoc, E0, Nat.mul_left_comm]
  have E3 : 2 * ordN (kept + X * 8388608 + 1) * (2 ^ s * den) = (kept + 1) * (2 ^ d * G) := by
    rw [ord_succ, mb, hG2, Nat.mul_assoc, Nat.add_mul, E0, Nat.succ_mul kept, Nat.mul_add]
    rw [Nat.mul_left_comm]
  have E1 : midN (kept + X * 8388608) * (2 ^ s * den) = kept * (2 ^ d * G) + half * G := by
    rw [mid_eq, mb, Nat.add_mul, E2]
    congr 1
    have : 2 * (half * G) = 2 * (2 ^ X * (2 ^ s * den)) := by rw [← hG2, hpow, Nat.mul_assoc]
    omega
  have hman : man * G = kept * (2 ^ d * G) + dropped * G := by
    rw [← hsplit, Nat.add_mul, Nat.mul_comm (2 ^ d) kept, Nat.mul_assoc]
  have hman1 : (man + 1) * G = kept * (2 ^ d * G) + dropped * G + G := by rw [Nat.succ_mul, hman]
  have par : (kept + X * 8388608) % 2 = kept % 2 := by omega
  have Gpos : 0 < G := by rw [← hG]; exact Nat.mul_pos (pow_pos2 _) hden
  rw [hman] at h1 h3 h3'
  rw [hman1] at h2
  by_cases up : (decide (half < dropped) || (decide (dropped = half) && (more || kept % 2 == 1))) = true
  · rw [if_pos up]
    refine ⟨kept + X * 8388608 + 1, near_of_up ?_ ?_ hD, ?_⟩
    · rw [E1, par]
      simp only [Bool.or_eq_true, Bool.and_eq_true, decide_eq_true_eq, beq_iff_eq] at up
      rcases up with u | ⟨u, u2⟩
      · left
        have : (half + 1) * G ≤ dropped * G := Nat.mul_le_mul_right _ u
        rw [Nat.succ_mul] at this
        omega
      · subst u
        cases more with
        | true =>
          left
          have := h3' rfl
          omega
        | false =>
          right
          exact ⟨h3 rfl, by simpa using u2⟩
    · rw [E3]
      have : (dropped + 1) * G ≤ 2 ^ d * G := Nat.mul_le_mul_right _ hmodlt
      rw [Nat.succ_mul] at this ⊢
      omega
    · by_cases t : kept + 1 = 16777216
      · rw [if_pos t]
        have : kept + X * 8388608 + 1 = 16777216 + X * 8388608 := by omega
        rw [this]
        obtain ⟨a, b⟩ := @mant_of_top X
        exact .inr ⟨by simp, a.symm, by rw [b]; simp only; omega⟩
      · rw [if_neg t]
        have := is_of (M := kept + 1) hX (by omega) (by omega)
        rwa [show kept + 1 + X * 8388608 = kept + X * 8388608 + 1 by omega] at this
  · rw [if_neg up, if_neg (by omega)]
    refine ⟨kept + X * 8388608, near_of ?_ ?_ hD, is_of hX hM h23⟩
    · rw [E1, par]
      simp only [Bool.or_eq_true, Bool.and_eq_true, decide_eq_true_eq, beq_iff_eq, not_or, not_and] at up
      obtain ⟨u1, u2⟩ := up
      by_cases e : dropped = half
      · have := u2 e
        right
        cases more with
        | true => simp at this
        | false => exact ⟨by rw [h3 rfl, e], by simp at this; omega⟩
      · left
        have : (dropped + 1) * G ≤ half * G := Nat.mul_le_mul_right _ (by omega)
        rw [Nat.succ_mul] at this
        omega
    · rw [E2]; omega
end Go.Proofs.YtogfiekbikechaaGreatDoor

namespace Go.Proofs.YtogfiekbikechaaGreatDoor

/-- What a rounding gives for an index and a sign. -/
def resI (neg : Bool) (r : Nat) : Option (Int × Int) :=
  if r = 0 then some (0, 0) else if 2533359615 < r then none else some (if neg then -(mantN r : Int) else mantN r, (expoN r : Int) - 150)
theorem expo_le {r : Nat} : expoN r ≤ 300 ↔ r ≤ 2533359615 := by unfold expoN; omega
theorem roundV_is {man : Nat} {exp : Int} {more : Bool} {r : Nat} (neg : Bool) (h : Is (shortV man exp more) r) : roundV neg man exp more = resI neg r := by
  unfold roundV resI
  simp only []
  generalize shortV man exp more = q at *
  rcases h with ⟨h1, h2⟩ | ⟨h1, h2, h3⟩
  · rw [if_pos h1, if_pos h2]
  · have hr : r ≠ 0 := by
      intro e; subst e; apply h1; rw [h2]; decide
    rw [if_neg h1, if_neg hr]
    have := @expo_le r
    by_cases c : 150 < q.2
    · rw [if_pos c, if_pos (by omega)]
    · rw [if_neg c, if_neg (show ¬ 2533359615 < r by omega), h2, h3]
theorem roundV_near (neg : Bool) (man : Nat) (exp : Int) (more : Bool) (s den P : Nat) (hden : 0 < den) (hs : 0 ≤ exp + 151 + s) (hm : man < 18446744073709551616)
    (h1 : man * (2 ^ (exp + 151 + s).toNat * den) ≤ P) (h2 : P < (man + 1) * (2 ^ (exp + 151 + s).toNat * den))
    (h3 : more = false → P = man * (2 ^ (exp + 151 + s).toNat * den)) (h3' : more = true → P ≠ man * (2 ^ (exp + 151 + s).toNat * den)) (h4 : more = true → 33554432 ≤ man) :
    ∃ r, Near P (2 ^ s * den) r ∧ roundV neg man exp more = resI neg r := by
  obtain ⟨r, hr, hi⟩ := short_near man exp more s den P hden hs hm h1 h2 h3 h3' h4
  exact ⟨r, hr, roundV_is neg hi⟩
/-- The index of a valid real's magnitude. -/
def idx (m x : Int) : Nat := if m = 0 then 0 else m.natAbs + (x + 150).toNat * 8388608
/-- Mantissa and exponent are a real's. -/
def Vd (m x : Int) : Prop := m.natAbs < 16777216 ∧ -150 ≤ x ∧ x ≤ 150 ∧ (m = 0 → x = 0) ∧ (m ≠ 0 → x = -150 ∨ 8388608 ≤ m.natAbs)
theorem idx_parts {m x : Int} (h : Vd m x) (h0 : m ≠ 0) : mantN (idx m x) = m.natAbs ∧ (expoN (idx m x) : Int) = x + 150 := by
  obtain ⟨a, b, c, d, e⟩ := h
  unfold idx
  rw [if_neg h0]
  obtain ⟨p, q⟩ := mant_of (m := m.natAbs) (x := (x + 150).toNat) a (by rcases e h0 with e | e <;> omega)
  rw [p, q]
  exact ⟨rfl, by omega⟩
theorem idx_le {m x : Int} (h : Vd m x) : idx m x ≤ 2533359615 := by
  obtain ⟨a, b, c, d, e⟩ := h
  unfold idx; split <;> omega
theorem idx_ord {m x : Int} (h : Vd m x) : ordN (idx m x) = m.natAbs * 2 ^ (x + 150).toNat := by
  by_cases h0 : m = 0
  · subst h0; unfold idx; rw [if_pos rfl]; simp [ord_zero]
  · obtain ⟨p, q⟩ := idx_parts h h0
    unfold ordN
    rw [p]; congr 2; omega
theorem resI_idx {m x : Int} (h : Vd m x) : resI (decide (m < 0)) (idx m x) = some (m, x) := by
  unfold resI
  by_cases h0 : m = 0
  · subst h0; obtain ⟨a, b, c, d, e⟩ := h; rw [d rfl]; unfold idx; simp
  · obtain ⟨p, q⟩ := idx_parts h h0
    have := idx_le h
    rw [if_neg (by unfold idx; rw [if_neg h0]; omega), if_neg (by omega), p, q]
    by_cases c : m < 0 <;> simp [c] <;> omega
theorem resI_idx' {m x : Int} (neg : Bool) (h : Vd m x) (hs : m ≠ 0 → neg = decide (m < 0)) : resI neg (idx m x) = some (m, x) := by
  by_cases h0 : m = 0
  · have := resI_idx h
    subst h0; unfold idx resI at *; simpa using this
  · rw [hs h0]; exact resI_idx h
/-- What a rounding gives is a real. -/
theorem resI_vd {neg : Bool} {r : Nat} {m x : Int} (h : resI neg r = some (m, x)) : Vd m x ∧ idx m x = r ∧ (m ≠ 0 → neg = decide (m < 0)) := by
  unfold resI at h
  by_cases h0 : r = 0
  · rw [if_pos h0] at h; cases h
    refine ⟨⟨by simp, by omega, by omega, fun _ => rfl, fun h => absurd rfl h⟩, ?_, fun h => absurd rfl h⟩
    unfold idx; simp [h0]
  · rw [if_neg h0] at h
    by_cases h1 : 2533359615 < r
    · rw [if_pos h1] at h; cases h
    · rw [if_neg h1] at h
      have e1 := mant_lt r
      have e2 := mant_split r
      have e3 := (@expo_le r).2 (by omega)
      have e4 : 0 < expoN r → 8388608 ≤ mantN r := mant_ge
      have e5 : mantN r ≠ 0 := by
        intro e; rw [e] at e2 e4; by_cases c : 0 < expoN r
        · have := e4 c; omega
        · omega
      cases neg with
      | true =>
        simp only [if_true] at h
        cases h
        refine ⟨⟨by omega, by omega, by omega, fun h => by omega, fun _ => by omega⟩, ?_, fun _ => by simp; omega⟩
        unfold idx; rw [if_neg (by omega)]; omega
      | false =>
        simp only [Bool.false_eq_true, if_false] at h
        cases h
        refine ⟨⟨by omega, by omega, by omega, fun h => by omega, fun _ => by omega⟩, ?_, fun _ => by simp⟩
        unfold idx; rw [if_neg (by omega)]; omega
end Go.Proofs.YtogfiekbikechaaGreatDoor

namespace Go.Proofs.YtogfiekbikechaaGreatDoor

theorem vd_iff {m x : Int} : validV m x = true ↔ Vd m x := by
  unfold validV Vd
  constructor
  · intro h
    repeat' split at h
    all_goals (first | (cases h; done) | skip)
    all_goals (try simp at h)
    all_goals omega
  · rintro ⟨a, b, c, d, e⟩
    repeat' split
    all_goals (try simp)
    all_goals omega
/-- A real as a multiple of 2^-150. -/
def sc (m x : Int) : Int := m * 2 ^ (x + 150).toNat
theorem sc_abs (m x : Int) : (sc m x).natAbs = m.natAbs * 2 ^ (x + 150).toNat := by
  unfold sc; rw [Int.natAbs_mul, Int.natAbs_pow]; rfl
end Go.Proofs.YtogfiekbikechaaGreatDoor

namespace Go.Proofs.YtogfiekbikechaaGreatDoor

theorem atP_eq {i : Int} (h : 0 ≤ i) : atP i = if i = 0 then (0, 0) else ((mantN i.toNat : Int), (expoN i.toNat : Int) - 150) := by
  unfold atP
  split
  · rfl
  · unfold mantN expoN
    refine Prod.ext ?_ ?_ <;> simp only <;> omega
/-- A result that is not too great: its value is a real. -/
theorem resI_some {neg : Bool} {r : Nat} (h : r ≤ 2533359615) : ∃ m x, resI neg r = some (m, x) ∧ Vd m x ∧ idx m x = r ∧ (m ≠ 0 → neg = decide (m < 0)) := by
  cases e : resI neg r with
  | none =>
    exfalso; unfold resI at e
    split at e
    · cases e
    · rw [if_neg (show ¬ 2533359615 < r by omega)] at e; cases e
  | some p => exact ⟨p.1, p.2, rfl, resI_vd e⟩
end Go.Proofs.YtogfiekbikechaaGreatDoor

namespace Go.Proofs.YtogfiekbikechaaGreatDoor

end Go.Proofs.YtogfiekbikechaaGreatDoor

namespace Go.Proofs.YtogfiekbikechaaGreatDoor

end Go.Proofs.YtogfiekbikechaaGreatDoor

namespace Go.Proofs.YtogfiekbikechaaGreatDoor
open Go.RowKit

def upS (d : Dec) : Dec := { d with size := d.size * 10 % M384, point := d.point + 1 }
def downS (d : Dec) : Dec := { d with num := d.num * 10 % M384, below := d.below * 10 % M384, above := d.above * 10 % M384, point := d.point - 1 }
/-- The loop ends within so many rounds. -/
def upDone : Nat → Dec → Bool
  | 0, d => decide (d.num < d.size)
  | f + 1, d => if d.size ≤ d.num then upDone f (upS d) else true
def downDone : Nat → Dec → Bool
  | 0, d => decide (d.size ≤ d.num * 10 % M384)
  | f + 1, d => if d.num * 10 % M384 < d.size then downDone f (downS d) else true
theorem up_go {k : Nat} {d : Dec} (h : upDone k d = true) (hc : d.size ≤ d.num) : ∃ j, k = j + 1 ∧ upDone j (upS d) = true ∧ decUp k d = decUp j (upS d) := by
  cases k with
  | zero => unfold upDone at h; simp at h; omega
  | succ j => unfold upDone at h; rw [if_pos hc] at h; exact ⟨j, rfl, h, by conv => lhs; unfold decUp
                                                                            rw [if_pos hc]; rfl⟩
theorem up_stop {k : Nat} {d : Dec} (hc : ¬ d.size ≤ d.num) : decUp k d = d := by
  cases k with
  | zero => rfl
  | succ j => unfold decUp; rw [if_neg hc]
theorem down_go {k : Nat} {d : Dec} (h : downDone k d = true) (hc : d.num * 10 % M384 < d.size) : ∃ j, k = j + 1 ∧ downDone j (downS d) = true ∧ decDown k d = decDown j (downS d) := by
  cases k with
  | zero => unfold downDone at h; simp at h; omega
  | succ j => unfold downDone at h; rw [if_pos hc] at h; exact ⟨j, rfl, h, by conv => lhs; unfold decDown
                                                                              rw [if_pos hc]; rfl⟩
theorem down_stop {k : Nat} {d : Dec} (hc : ¬ d.num * 10 % M384 < d.size) : decDown k d = d := by
  cases k with
  | zero => rfl
  | succ j => unfold decDown; rw [if_neg hc]
structure SmallD (d : Dec) : Prop where
  num : d.num < N6
  below : d.below < N6
  above : d.above < N6
  size : d.size < N6
theorem SmallD.up {d : Dec} (h : SmallD d) : SmallD (upS d) := ⟨h.num, h.below, h.above, mod_N6 _⟩
theorem SmallD.down {d : Dec} (h : SmallD d) : SmallD (downS d) := ⟨mod_N6 _, mod_N6 _, mod_N6 _, h.size⟩

def dV (d : Dec) : Nat → Value := dF d.num d.below d.above d.size d.point
/-- The blocks of decimalOf: the parameter's, the result's, the decimal's. -/
structure DD (w u : World) (c : Nat → Value) (x : Int) : Prop where
  d : Dk u (w.heap.size + 1 + 1) c
  r : Dk u (w.heap.size + 1) (dF 0 0 0 0 0)
  x : u.cell? ⟨w.heap.size, 1, none⟩ = some (.int .i64 x)
  e : Ext w u
theorem DD.later {w u u' : World} {c : Nat → Value} {x : Int} (h : DD w u c x) (hx : Ext u u') : DD w u' c x :=
  ⟨h.d.later hx, h.r.later hx, (hx.cell 1 (World.block_lt_of_cell? u _ h.x)).trans h.x, h.e.trans hx⟩
theorem DD.drew {w u : World} {c : Nat → Value} {x : Int} (h : DD w u c x) : DD w u.drew c x := h.later ((Ext.refl u).drew)
theorem DD.other {w u : World} {c : Nat → Value} {x : Int} (h : DD w u c x) {k : Nat} (hk : k < 25) (v : Value) : DD w (u.setCell ⟨w.heap.size + 1 + 1, k, none⟩ v) (fun j => if j = k then v else c j) x :=
  ⟨h.d.set hk v, h.r.other (by omega), by rw [← h.x]; apply World.cell?_setCell_other; intro e; simp at e, h.e.setCell (by simp; omega) v⟩
theorem DD.put {w u : World} {c c' : Nat → Value} {x : Int} {o : Nat} {Y : Nat → Nat} (h : DD w u c x) (hd : Dk (put6 u (w.heap.size + 1 + 1) o Y) (w.heap.size + 1 + 1) c') (ho : o + 6 ≤ 25) : DD w (put6 u (w.heap.size + 1 + 1) o Y) c' x := by
  have := (((((h.other (k := o) (by omega) (.int .u64 (Y 0))).other (k := o + 1) (by omega) (.int .u64 (Y 1))).other (k := o + 2) (by omega) (.int .u64 (Y 2))).other (k := o + 3) (by omega) (.int .u64 (Y 3))).other (k := o + 4) (by omega) (.int .u64 (Y 4))).other (k := o + 5) (by omega) (.int .u64 (Y 5))
  exact ⟨hd, this.r, this.x, this.e⟩
theorem DD.pt {w u : World} {d : Dec} {x : Int} (h : DD w u (dV d) x) (q : Int) : DD w (u.setCell ⟨w.heap.size + 1 + 1, 24, none⟩ (.int .i64 q)) (dV { d with point := q }) x :=
  have := h.other (k := 24) (by omega) (.int .i64 q)
  ⟨h.d.putP q, this.r, this.x, this.e⟩
theorem DD.num {w u : World} {d : Dec} {x : Int} (h : DD w u (dV d) x) (y : Nat) : DD w (put6 u (w.heap.size + 1 + 1) 0 (L y)) (dV { d with num := y }) x := h.put (h.d.putN y) (by omega)
theorem DD.bel {w u : World} {d : Dec} {x : Int} (h : DD w u (dV d) x) (y : Nat) : DD w (put6 u (w.heap.size + 1 + 1) 6 (L y)) (dV { d with below := y }) x := h.put (h.d.putB y) (by omega)
theorem DD.abv {w u : World} {d : Dec} {x : Int} (h : DD w u (dV d) x) (y : Nat) : DD w (put6 u (w.heap.size + 1 + 1) 12 (L y)) (dV { d with above := y }) x := h.put (h.d.putA y) (by omega)
theorem DD.siz {w u : World} {d : Dec} {x : Int} (h : DD w u (dV d) x) (y : Nat) : DD w (put6 u (w.heap.size + 1 + 1) 18 (L y)) (dV { d with size := y }) x := h.put (h.d.putS y) (by omega)
theorem DD.same {w u : World} {d d' : Dec} {x : Int} (h : DD w u (dV d) x) (hp : d'.point = d.point) (h1 : ∀ j, j < 6 → L d'.num j = L d.num j) (h2 : ∀ j, j < 6 → L d'.below j = L d.below j) (h3 : ∀ j, j < 6 → L d'.above j = L d.above j) (h4 : ∀ j, j < 6 → L d'.size j = L d.size j) : DD w u (dV d') x := by
  have := h.d.same h1 h2 h3 h4
  unfold dV; rw [hp]
  exact ⟨this, h.r, h.x, h.e⟩
theorem Dk.there {u : World} {b o n : Nat} {c : Nat → Value} (h : Dk u b c) (ho : o + n ≤ 25) : u.there b o n := fun j hj => ⟨by rw [h.cell (o + j) (by omega)]; rfl, h.froz _⟩
theorem put6_eq (u : World) (b o : Nat) (Y : Nat → Nat) : u.setCells b o [.int .u64 (Y 0), .int .u64 (Y 1), .int .u64 (Y 2), .int .u64 (Y 3), .int .u64 (Y 4), .int .u64 (Y 5)] = put6 u b o Y := rfl
/-- A whole block is written. -/
theorem dk_row {u : World} {b : Nat} {old vs : Array Value} {T : TypeId} {c : Nat → Value} (h : u.heap[b]? = some (.cells old T (0, 0))) (hv : ∀ j, j < 25 → vs[j]? = some (c j)) : Dk (u.setRow b vs) b c := by
  have := setRow_heap u b old vs T (0, 0) h
  exact ⟨fun j hj => by simp [World.cell?, this, hv j hj], fun j => by simp [World.frozen?, this]⟩
theorem Dk.rowOther {u : World} {b d : Nat} {vs : Array Value} {c : Nat → Value} (h : Dk u b c) (hn : b ≠ d) : Dk (u.setRow d vs) b c where
  cell := fun j hj => by rw [← h.cell j hj]; simp only [World.cell?, setRow_other u d b vs hn]
  froz := fun j => by rw [← h.froz j]; simp only [World.frozen?, setRow_other u d b vs hn]
theorem alloc_new (u : World) (o : Obj) {n : Nat} (h : n = u.heap.size) : (u.alloc o).heap[n]? = some o := by subst h; unfold World.alloc; simp
theorem L_lit0 {n : Nat} (h : n < 18446744073709551616) : L n 0 = n := limb_small h
theorem L_lit {n j : Nat} (h : n < 18446744073709551616) (hj : 1 ≤ j) : L n j = 0 := limb_small' h hj
theorem dd_start (w : World) (m x : Int) (man : Nat) (h : man < 18446744073709551) (T1 T2 T3 : TypeId) :
    DD w ((((w.alloc (.cells #[.int .i64 m, .int .i64 x] T1)).alloc (.cells #[.int .u64 0, .int .u64 0, .int .u64 0, .int .u64 0, .int .u64 0, .int .u64 0, .int .u64 0, .int .u64 0, .int .u64 0, .int .u64 0, .int .u64 0, .int .u64 0, .int .u64 0, .int .u64 0, .int .u64 0, .int .u64 0, .int .u64 0, .int .u64 0, .int .u64 0, .int .u64 0, .int .u64 0, .int .u64 0, .int .u64 0, .int .u64 0, .int .i64 0] T2)).alloc (.cells #[.int .u64 0, .int .u64 0, .int .u64 0, .int .u64 0, .int .u64 0, .int .u64 0, .int .u64 0, .int .u64 0, .int .u64 0, .int .u64 0, .int .u64 0, .int .u64 0, .int .u64 0, .int .u64 0, .int .u64 0, .int .u64 0, .int .u64 0, .int .u64 0, .int .u64 0, .int .u64 0, .int .u64 0, .int .u64 0, .int .u64 0, .int .u64 0, .int .i64 0] T3)).setRow (w.heap.size + 1 + 1) #[.int .u64 ((4 * man : Nat) : Int), .int .u64 0, .int .u64 0, .int .u64 0, .int .u64 0, .int .u64 0, .int .u64 2, .int .u64 0, .int .u64 0, .int .u64 0, .int .u64 0, .int .u64 0, .int .u64 2, .int .u64 0, .int .u64 0, .int .u64 0, .int .u64 0, .int .u64 0, .int .u64 4, .int .u64 0, .int .u64 0, .int .u64 0, .int .u64 0, .int .u64 0, .int .i64 0]) (dV ⟨4 * man, 2, 2, 4, 0⟩) x where
  d := dk_row (alloc_new _ _ (by simp)) (fun j hj => by
    have : j = 0 ∨ j = 1 ∨ j = 2 ∨ j = 3 ∨ j = 4 ∨ j = 5 ∨ j = 6 ∨ j = 7 ∨ j = 8 ∨ j = 9 ∨ j = 10 ∨ j = 11 ∨ j = 12 ∨ j = 13 ∨ j = 14 ∨ j = 15 ∨ j = 16 ∨ j = 17 ∨ j = 18 ∨ j = 19 ∨ j = 20 ∨ j = 21 ∨ j = 22 ∨ j = 23 ∨ j = 24 := by omega
    have e0 : L (4 * man) 0 = 4 * man := L_lit0 (by omega)
    have e1 : ∀ j, 1 ≤ j → L (4 * man) j = 0 := fun j hj => L_lit (by omega) hj
    rcases this with rfl | rfl | rfl | rfl | rfl | rfl | rfl | rfl | rfl | rfl | rfl | rfl | rfl | rfl | rfl | rfl | rfl | rfl | rfl | rfl | rfl | rfl | rfl | rfl | rfl <;> simp [dV, dF, e0, e1, L_lit0, L_lit])
  r := by
    have h0 : Dk ((w.alloc (.cells #[.int .i64 m, .int .i64 x] T1)).alloc (.cells #[.int .u64 0, .int .u64 0, .int .u64 0, .int .u64 0, .int .u64 0, .int .u64 0, .int .u64 0, .int .u64 0, .int .u64 0, .int .u64 0, .int .u64 0, .int .u64 0, .int .u64 0, .int .u64 0, .int .u64 0, .int .u64 0, .int .u64 0, .int .u64 0, .int .u64 0, .int .u64 0, .int .u64 0, .int .u64 0, .int .u64 0, .int .u64 0, .int .i64 0] T2)) (w.heap.size + 1) (dF 0 0 0 0 0) := by
      have := dk_new (w.alloc (.cells #[.int .i64 m, .int .i64 x] T1)) 0 0 0 0 0 T2
      rw [World.size_alloc] at this
      exact this
    exact (h0.later ((Ext.refl _).alloc _)).rowOther (by omega)
  x := by
    simp only [World.cell?, setRow_other _ _ _ _ (show w.heap.size ≠ w.heap.size + 1 + 1 by omega)]
    have h0 : (w.alloc (.cells #[.int .i64 m, .int .i64 x] T1)).cell? ⟨w.heap.size, 1, none⟩ = some (.int .i64 x) := by simp [go_sem]
    have h1 := ((((Ext.refl (w.alloc (.cells #[.int .i64 m, .int .i64 x] T1))).alloc (.cells #[.int .u64 0, .int .u64 0, .int .u64 0, .int .u64 0, .int .u64 0, .int .u64 0, .int .u64 0, .int .u64 0, .int .u64 0, .int .u64 0, .int .u64 0, .int .u64 0, .int .u64 0, .int .u64 0, .int .u64 0, .int .u64 0, .int .u64 0, .int .u64 0, .int .u64 0, .int .u64 0, .int .u64 0, .int .u64 0, .int .u64 0, .int .u64 0, .int .i64 0] T2)).alloc (.cells #[.int .u64 0, .int .u64 0, .int .u64 0, .int .u64 0, .int .u64 0, .int .u64 0, .int .u64 0, .int .u64 0, .int .u64 0, .int .u64 0, .int .u64 0, .int .u64 0, .int .u64 0, .int .u64 0, .int .u64 0, .int .u64 0, .int .u64 0, .int .u64 0, .int .u64 0, .int .u64 0, .int .u64 0, .int .u64 0, .int .u64 0, .int .u64 0, .int .i64 0] T3)).cell (b := w.heap.size) 1 (by simp)).trans h0
    simpa only [World.cell?] using h1
  e := ((((Ext.refl w).alloc _).alloc _).alloc _).row (by omega)
theorem DD.bel1 {w u : World} {d : Dec} {x : Int} (h : DD w u (dV d) x) : DD w ((((((u.setCell ⟨w.heap.size + 1 + 1, 6, none⟩ (.int .u64 1)).setCell ⟨w.heap.size + 1 + 1, 7, none⟩ (.int .u64 0)).setCell ⟨w.heap.size + 1 + 1, 8, none⟩ (.int .u64 0)).setCell ⟨w.heap.size + 1 + 1, 9, none⟩ (.int .u64 0)).setCell ⟨w.heap.size + 1 + 1, 10, none⟩ (.int .u64 0)).setCell ⟨w.heap.size + 1 + 1, 11, none⟩ (.int .u64 0)) (dV { d with below := 1 }) x := by
  have := h.bel 1
  unfold put6 at this
  rw [L_lit0 (by omega), L_lit (j := 1) (by omega) (by omega), L_lit (j := 2) (by omega) (by omega), L_lit (j := 3) (by omega) (by omega), L_lit (j := 4) (by omega) (by omega), L_lit (j := 5) (by omega) (by omega)] at this
  exact this
theorem decStart_small (man : Nat) (x : Int) (h : man < 16777216) : SmallD (decStart man x) := by
  have n6 : (67108864 : Nat) < N6 := by decide +kernel
  have lt : ∀ k : Nat, k ≤ 67108864 → k < N6 := fun k h => Nat.lt_of_le_of_lt h n6
  unfold decStart
  by_cases c : man = 8388608 ∧ -150 < x
  · simp only [if_pos c]
    split
    · exact ⟨shN_lt _ _, shN_lt _ _, shN_lt _ _, lt 4 (by omega)⟩
    · exact ⟨lt (4 * man) (by omega), lt 1 (by omega), lt 2 (by omega), shN_lt _ _⟩
  · simp only [if_neg c]
    split
    · exact ⟨shN_lt _ _, shN_lt _ _, shN_lt _ _, lt 4 (by omega)⟩
    · exact ⟨lt (4 * man) (by omega), lt 2 (by omega), lt 2 (by omega), shN_lt _ _⟩
theorem decStart_point (man : Nat) (x : Int) : (decStart man x).point = 0 := by
  unfold decStart
  simp only
  by_cases c : 0 ≤ x
  · simp only [if_pos c]
  · simp only [if_neg c]
theorem dF_list (n bl ab sz : Nat) (pt : Int) (j : Nat) (hj : j < 25) : ([.int .u64 (L n 0), .int .u64 (L n 1), .int .u64 (L n 2), .int .u64 (L n 3), .int .u64 (L n 4), .int .u64 (L n 5), .int .u64 (L bl 0), .int .u64 (L bl 1), .int .u64 (L bl 2), .int .u64 (L bl 3), .int .u64 (L bl 4), .int .u64 (L bl 5), .int .u64 (L ab 0), .int .u64 (L ab 1), .int .u64 (L ab 2), .int .u64 (L ab 3), .int .u64 (L ab 4), .int .u64 (L ab 5), .int .u64 (L sz 0), .int .u64 (L sz 1), .int .u64 (L sz 2), .int .u64 (L sz 3), .int .u64 (L sz 4), .int .u64 (L sz 5), .int .i64 pt] : List Value)[j]? = some (dF n bl ab sz pt j) := by
  have : j = 0 ∨ j = 1 ∨ j = 2 ∨ j = 3 ∨ j = 4 ∨ j = 5 ∨ j = 6 ∨ j = 7 ∨ j = 8 ∨ j = 9 ∨ j = 10 ∨ j = 11 ∨ j = 12 ∨ j = 13 ∨ j = 14 ∨ j = 15 ∨ j = 16 ∨ j = 17 ∨ j = 18 ∨ j = 19 ∨ j = 20 ∨ j = 21 ∨ j = 22 ∨ j = 23 ∨ j = 24 := by omega
  rcases this with rfl | rfl | rfl | rfl | rfl | rfl | rfl | rfl | rfl | rfl | rfl | rfl | rfl | rfl | rfl | rfl | rfl | rfl | rfl | rfl | rfl | rfl | rfl | rfl | rfl <;> rfl
theorem Dk.range {u : World} {b n bl ab sz : Nat} {pt : Int} (h : Dk u b (dF n bl ab sz pt)) : u.rangeAt b 0 [.int .u64 (L n 0), .int .u64 (L n 1), .int .u64 (L n 2), .int .u64 (L n 3), .int .u64 (L n 4), .int .u64 (L n 5), .int .u64 (L bl 0), .int .u64 (L bl 1), .int .u64 (L bl 2), .int .u64 (L bl 3), .int .u64 (L bl 4), .int .u64 (L bl 5), .int .u64 (L ab 0), .int .u64 (L ab 1), .int .u64 (L ab 2), .int .u64 (L ab 3), .int .u64 (L ab 4), .int .u64 (L ab 5), .int .u64 (L sz 0), .int .u64 (L sz 1), .int .u64 (L sz 2), .int .u64 (L sz 3), .int .u64 (L sz 4), .int .u64 (L sz 5), .int .i64 pt] := by
  intro j v hv
  have hj : j < 25 := (List.getElem?_eq_some_iff.1 hv).1
  rw [dF_list n bl ab sz pt j hj] at hv
  rw [Nat.zero_add, h.cell j hj]; exact hv
theorem dk_setCells {u : World} {b : Nat} {c : Nat → Value} (h : Dk u b c) (n bl ab sz : Nat) (pt : Int) : Dk (u.setCells b 0 [.int .u64 (L n 0), .int .u64 (L n 1), .int .u64 (L n 2), .int .u64 (L n 3), .int .u64 (L n 4), .int .u64 (L n 5), .int .u64 (L bl 0), .int .u64 (L bl 1), .int .u64 (L bl 2), .int .u64 (L bl 3), .int .u64 (L bl 4), .int .u64 (L bl 5), .int .u64 (L ab 0), .int .u64 (L ab 1), .int .u64 (L ab 2), .int .u64 (L ab 3), .int .u64 (L ab 4), .int .u64 (L ab 5), .int .u64 (L sz 0), .int .u64 (L sz 1), .int .u64 (L sz 2), .int .u64 (L sz 3), .int .u64 (L sz 4), .int .u64 (L sz 5), .int .i64 pt]) b (dF n bl ab sz pt) where
  cell := fun j hj => by
    have := World.rangeAt_setCells_same u b 0 [.int .u64 (L n 0), .int .u64 (L n 1), .int .u64 (L n 2), .int .u64 (L n 3), .int .u64 (L n 4), .int .u64 (L n 5), .int .u64 (L bl 0), .int .u64 (L bl 1), .int .u64 (L bl 2), .int .u64 (L bl 3), .int .u64 (L bl 4), .int .u64 (L bl 5), .int .u64 (L ab 0), .int .u64 (L ab 1), .int .u64 (L ab 2), .int .u64 (L ab 3), .int .u64 (L ab 4), .int .u64 (L ab 5), .int .u64 (L sz 0), .int .u64 (L sz 1), .int .u64 (L sz 2), .int .u64 (L sz 3), .int .u64 (L sz 4), .int .u64 (L sz 5), .int .i64 pt] (h.there (n := 25) (by decide)) j _ (dF_list n bl ab sz pt j hj)
    rwa [Nat.zero_add] at this
  froz := fun j => by simp only [World.setCells, World.frozen?_setCell]; exact h.froz j
theorem Ext.setCells {a : World} {b : Nat} (hb : a.heap.size ≤ b) : ∀ (vs : List Value) (o : Nat) (u : World), Ext a u → Ext a (u.setCells b o vs)
  | [], _, _, h => h
  | v :: r, o, _, h => Ext.setCells hb r (o + 1) _ (h.setCell hb v)
end Go.Proofs.YtogfiekbikechaaGreatDoor

namespace Go.Proofs.YtogfiekbikechaaGreatDoor
open Go.RowKit
theorem results_cell {P : Program} {fn : Func} {tmps : Array Value} {u : World} {s : Tmp} {t : TypeId} {ad : Addr} {v : Value} (hr : fn.results = #[.cell s t]) (hs : tmps.getD s undef = .pointer (some ad))
    (hl : (loadVar t ad).run P u = .ok v u) : (results fn tmps).run P u = .ok v u := by
  have h : results fn tmps = (do let x ← loadVar t ad; pure x) := by
    unfold results
    rw [hr]
    simp only [Array.mapM_eq_mapM_toList, List.mapM_cons, List.mapM_nil, hs, asAddr]
    generalize hc : loadVar t ad = c
    simp
    exact hc
  rw [h]
  simp only [hl]
end Go.Proofs.YtogfiekbikechaaGreatDoor
