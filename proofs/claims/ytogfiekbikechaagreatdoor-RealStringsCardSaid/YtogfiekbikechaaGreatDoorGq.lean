/- Layer 2: digits laid out; the text of a number. -/
/- Layer 2: Print. -/
/- Layer 2: the examples that stand in every statement. -/
/- Layer 2: sanity returns true. -/
import Derived.Test.YtogfiekbikechaaGreatDoorGl
import Derived.Test.YtogfiekbikechaaGreatDoorGb
import Derived.Test.YtogfiekbikechaaGreatDoorGo
import Derived.Sort.Grow
import Derived.Lib.ItoaLen
import Derived.Test.YtogfiekbikechaaGreatDoorGp
import Derived.Test.YtogfiekbikechaaGreatDoorGi
import Derived.Test.YtogfiekbikechaaGreatDoorGk
import Derived.Test.YtogfiekbikechaaGreatDoorGm
namespace Go.Proofs.YtogfiekbikechaaGreatDoor
open Go.RowKit

/-- The library's table of powers lies as its initialiser lays it. -/
def Pow10 (w : World) : Prop := Lib.TabIs Tryz.prog w "internal/strconv.uint64pow10" .u64 Lib.pow10Tab
theorem Pow10.later {w w' : World} (h : Pow10 w) (hx : Ext w w') : Pow10 w' := by
  unfold Pow10 Lib.TabIs World.var? at *
  cases hg : Tryz.prog.globalNamed "internal/strconv.uint64pow10" with
  | none => simp [hg] at h
  | some g =>
    simp only [hg, Option.bind_some] at h ⊢
    have hlt : g < w.heap.size := by
      rcases Nat.lt_or_ge g w.heap.size with h' | h'
      · exact h'
      · rw [Array.getElem?_eq_none h'] at h; simp at h
    rw [hx.bel.block g hlt]
    exact h
theorem ext_grow (w : World) (k : Nat) (os : Array Obj) : Ext w (Sort.grow (w.drewN k) os) := by
  refine Ext.trans ((Ext.refl w).drewN k) ⟨rfl, rfl, rfl, by simp, fun j hj => Sort.heap_grow_old _ os hj⟩
theorem itoa_any (n : Int) (h0 : -9223372036854775808 ≤ n) (h1 : n ≤ 9223372036854775807) (w : World) (ht : Pow10 w) :
    Calls Tryz.prog 113 #[.int .i64 n] w fun e w' => e = .returned (.string (bs (Lib.itoa n))) ∧ Ext w w' :=
  (Tryz.strconv_Itoa n h0 h1 w ht).mono fun e w' ⟨h, k, os, hw⟩ => ⟨h, by rw [hw]; exact ext_grow _ _ _⟩
theorem itoa_digit : ∀ d : Fin 11, Lib.itoa ((d.val : Nat) : Int) = itoaD d.val := by decide +kernel
theorem itoaD_any (d : Nat) (h : d ≤ 10) (w : World) (ht : Pow10 w) :
    Calls Tryz.prog 113 #[.int .i64 d] w fun e w' => e = .returned (.string (bs (itoaD d))) ∧ Ext w w' := by
  have := itoa_digit ⟨d, by omega⟩
  simp only at this
  rw [← this]
  exact itoa_any d (by omega) (by omega) w ht

/-- 0.D * 10^k as text. -/
def layoutV (d : List UInt8) (k : Int) : List UInt8 :=
  if k < -3 ∨ k > 9 then pointV (d.take 1) (d.drop 1) ++ [101] ++ Lib.itoa (k - 1)
  else if k < 1 then pointV [] (List.replicate (-k).toNat 48 ++ d)
  else if (d.length : Int) < k then pointV (d ++ List.replicate (k - d.length).toNat 48) []
  else pointV (d.take k.toNat) (d.drop k.toNat)
theorem bs_extract (d : List UInt8) (a b : Nat) : (bs d).extract a b = bs ((d.drop a).take (b - a)) := by
  have h : ((bs d).extract a b).data = (bs ((d.drop a).take (b - a))).data := by
    rw [ByteArray.data_extract]
    simp [bs, List.extract_eq_take_drop]
  exact ByteArray.ext h
theorem or0_len (l : List UInt8) : (or0 l).length ≤ l.length + 1 := by unfold or0; split <;> simp
theorem point_len (a b : List UInt8) : (pointV a b).length ≤ a.length + b.length + 3 := by
  unfold pointV; have := or0_len a; have := or0_len b; simp; omega
theorem layout_any (d : List UInt8) (k : Int) (hd : 1 ≤ d.length) (hd2 : d.length ≤ 80) (hk : -200 ≤ k) (hk2 : k ≤ 200) (w : World) (ht : Pow10 w) :
    Calls Tryz.prog 89 #[.string (bs d), .int .i64 k] w fun e w' => e = .returned (.string (bs (layoutV d k))) ∧ Ext w w' := by
  have hs : (bs d).size = d.length := rfl
  have e01 : (bs d).extract 0 1 = bs (d.take 1) := by rw [bs_extract]; simp
  have e1n : (bs d).extract 1 (bs d).size = bs (d.drop 1) := by rw [bs_extract, hs]; congr 1; rw [List.take_of_length_le (by simp)]
  have T : ∀ a b : List UInt8, a.length ≤ 1000 → b.length ≤ 1000 → ∀ u, Calls Tryz.prog 112 #[.string (bs a), .string (bs b)] u fun e w' => e = .returned (.string (bs (pointV a b))) ∧ Ext u w' := fun a b h1 h2 u => point_any a b h1 h2 u
  have h1 : (d.take 1).length ≤ 1000 := by simp; omega
  have h2 : (d.drop 1).length ≤ 1000 := by simp; omega
  have hi : (Lib.itoa (k - 1)).length ≤ 21 := Lib.itoa_length_le (k - 1) (by omega) (by omega)
  have I : ∀ u, Ext w u → Calls Tryz.prog 113 #[.int .i64 (k - 1)] u fun e w' => e = .returned (.string (bs (Lib.itoa (k - 1)))) ∧ Ext u w' := fun u hx => itoa_any (k - 1) (by omega) (by omega) u (ht.later hx)
  have lp := point_len (d.take 1) (d.drop 1)
  have ebs : bs (pointV (d.take 1) (d.drop 1)) ++ (⟨#[101]⟩ : ByteArray) ++ bs (Lib.itoa (k - 1)) = bs (pointV (d.take 1) (d.drop 1) ++ [101] ++ Lib.itoa (k - 1)) := by
    rw [← bs_append, ← bs_append]; rfl
  have sz : ∀ l : List UInt8, (bs l).size = l.length := fun _ => rfl
  unfold layoutV
  by_cases c1 : k < -3
  · rw [if_pos (.inl c1), ← ebs]
    exact layout_a k (by omega) (by omega) c1 (bs d) (bs []) _ _ (by omega) (by omega) w (by rw [e01, e1n]; exact T _ _ h1 h2) I (by rw [sz]; omega) (by rw [sz]; simp at lp ⊢; omega)
  · by_cases c2 : k > 9
    · rw [if_pos (.inr c2), ← ebs]
      exact layout_a2 k (by omega) (by omega) c1 c2 (bs d) (bs []) _ _ (by omega) (by omega) w (by rw [e01, e1n]; exact T _ _ h1 h2) I (by rw [sz]; omega) (by rw [sz]; simp at lp ⊢; omega)
    · rw [if_neg (by omega)]
      by_cases c3 : k < 1
      · rw [if_pos c3]
        refine layout_b k c1 c2 c3 (bs d) (bs (List.replicate (-k).toNat 48)) _ (by omega) w (fun u => ?_) (by rw [sz]; simp; omega) (by rw [bs_append]; exact T [] _ (by simp) (by simp; omega))
        have := rep_any (-k).toNat (by omega) u
        rw [show (((-k).toNat : Nat) : Int) = -k by omega] at this
        exact this
      · rw [if_neg c3]
        by_cases c4 : (d.length : Int) < k
        · rw [if_pos c4]
          refine layout_c k c1 c2 c3 (bs d) (bs (List.replicate (k - d.length).toNat 48)) _ (bs []) (by omega) (by omega) w c4 (fun u => ?_) (by rw [sz]; simp; omega) (by rw [bs_append]; exact T _ [] (by simp; omega) (by simp))
          have := rep_any (k - d.length).toNat (by omega) u
          rw [show (((k - d.length).toNat : Nat) : Int) = k - d.length by omega] at this
          exact this
        · rw [if_neg c4]
          have e0k : (bs d).extract 0 k.toNat = bs (d.take k.toNat) := by rw [bs_extract]; simp
          have ekn : (bs d).extract k.toNat (bs d).size = bs (d.drop k.toNat) := by rw [bs_extract, hs]; congr 1; rw [List.take_of_length_le (by simp)]
          exact layout_d k c1 c2 c3 (bs d) (bs []) _ (bs []) (by omega) (by omega) w c4 (by rw [e0k, ekn]; exact T _ _ (by simp; omega) (by simp; omega))
end Go.Proofs.YtogfiekbikechaaGreatDoor

namespace Go.Proofs.YtogfiekbikechaaGreatDoor
open Go.RowKit

theorem print_neg (m x : Int) (hv : validV m x = true) (hne : (m == 0 && x == 0) = false) (hm : m < 0) (p t : List UInt8) (k : Int) (w : World)
    (SH : ∀ u, Ext w u → Calls Tryz.prog 90 #[.agg #[.int .i64 m, .int .i64 x]] u fun e w' => e = .returned (.tuple #[.string (bs p), .int .i64 k]) ∧ Ext u w')
    (LA : ∀ u, Ext w u → Calls Tryz.prog 89 #[.string (bs p), .int .i64 k] u fun e w' => e = .returned (.string (bs t)) ∧ Ext u w') (htl : t.length ≤ 500) :
    Calls Tryz.prog 47 #[.agg #[.int .i64 m, .int .i64 x]] w fun e w' => e = .returned (.tuple #[.string (bs (45 :: t)), .int .i64 0]) ∧ Ext w w' := by
  have A := Lib.hid (valid_any m x)
  rw [hv] at A
  have HS := Lib.hid SH
  have HL := Lib.hid LA
  have eqR := eqReal
  have hsz : (bs t).size ≤ 1000 := by show t.length ≤ 1000; omega
  clear SH LA
  go_enter Tryz.func47, Tryz.ntmps47
  go_wp2_with fail
  refine (A.out _).mono ?_
  rintro e w1 ⟨rfl, hx⟩
  have X : Hid (Ext w w1) := Lib.hid (Ext.trans (by repeat (first | with_reducible exact Ext.refl _ | with_reducible refine Ext.alloc ?_ _)) hx)
  have sz : w.heap.size + 1 ≤ w1.heap.size := by simpa using hx.size
  have p0 : w1.cell? ⟨w.heap.size, 0, none⟩ = some (.int .i64 m) := (hx.cell 0 (by simp)).trans (by simp [go_sem])
  have p1 : w1.cell? ⟨w.heap.size, 1, none⟩ = some (.int .i64 x) := (hx.cell 1 (by simp)).trans (by simp [go_sem])
  clear hx
  go_wp2_with fail
  refine (HS.out _ X.out).mono ?_
  rintro e w2 ⟨rfl, hx⟩
  have q0 : w2.cell? ⟨w.heap.size, 0, none⟩ = some (.int .i64 m) := (hx.cell 0 (by omega)).trans p0
  have X2 : Hid (Ext w w2) := Lib.hid (X.out.trans hx)
  have sz2 := hx.size
  clear hx p0 p1 X
  go_wp2_with fail
  refine (HL.out _ X2.out).mono ?_
  rintro e w3 ⟨rfl, hx⟩
  have r0 : w3.cell? ⟨w.heap.size, 0, none⟩ = some (.int .i64 m) := (hx.cell 0 (by omega)).trans q0
  have X3 : Hid (Ext w w3) := Lib.hid (X2.out.trans hx)
  clear hx q0 X2
  have eb : (⟨#[45]⟩ : ByteArray) ++ bs t = bs (45 :: t) := by rw [show (⟨#[45]⟩ : ByteArray) = bs [45] from rfl, bs_append]; rfl
  have EB := Lib.hid eb
  clear eb
  go_wp2
  rw [EB.out]
  first | (go_ret2; exact ⟨rfl, X3.out⟩) | (refine bodyPost_ret (v := .tuple #[.string (bs (45 :: t)), .int .i64 0]) ?_ rfl ⟨rfl, X3.out⟩; simp [results, Tryz.results47, go_sem])
theorem print_pos (m x : Int) (hv : validV m x = true) (hne : (m == 0 && x == 0) = false) (hm : ¬ m < 0) (p t : List UInt8) (k : Int) (w : World)
    (SH : ∀ u, Ext w u → Calls Tryz.prog 90 #[.agg #[.int .i64 m, .int .i64 x]] u fun e w' => e = .returned (.tuple #[.string (bs p), .int .i64 k]) ∧ Ext u w')
    (LA : ∀ u, Ext w u → Calls Tryz.prog 89 #[.string (bs p), .int .i64 k] u fun e w' => e = .returned (.string (bs t)) ∧ Ext u w') :
    Calls Tryz.prog 47 #[.agg #[.int .i64 m, .int .i64 x]] w fun e w' => e = .returned (.tuple #[.string (bs t), .int .i64 0]) ∧ Ext w w' := by
  have A := Lib.hid (valid_any m x)
  rw [hv] at A
  have HS := Lib.hid SH
  have HL := Lib.hid LA
  have eqR := eqReal
  clear SH LA
  go_enter Tryz.func47, Tryz.ntmps47
  go_wp2_with fail
  refine (A.out _).mono ?_
  rintro e w1 ⟨rfl, hx⟩
  have X : Hid (Ext w w1) := Lib.hid (Ext.trans (by repeat (first | with_reducible exact Ext.refl _ | with_reducible refine Ext.alloc ?_ _)) hx)
  have sz : w.heap.size + 1 ≤ w1.heap.size := by simpa using hx.size
  have p0 : w1.cell? ⟨w.heap.size, 0, none⟩ = some (.int .i64 m) := (hx.cell 0 (by simp)).trans (by simp [go_sem])
  have p1 : w1.cell? ⟨w.heap.size, 1, none⟩ = some (.int .i64 x) := (hx.cell 1 (by simp)).trans (by simp [go_sem])
  clear hx
  go_wp2_with fail
  refine (HS.out _ X.out).mono ?_
  rintro e w2 ⟨rfl, hx⟩
  have q0 : w2.cell? ⟨w.heap.size, 0, none⟩ = some (.int .i64 m) := (hx.cell 0 (by omega)).trans p0
  have X2 : Hid (Ext w w2) := Lib.hid (X.out.trans hx)
  have sz2 := hx.size
  clear hx p0 p1 X
  go_wp2_with fail
  refine (HL.out _ X2.out).mono ?_
  rintro e w3 ⟨rfl, hx⟩
  have r0 : w3.cell? ⟨w.heap.size, 0, none⟩ = some (.int .i64 m) := (hx.cell 0 (by omega)).trans q0
  have X3 : Hid (Ext w w3) := Lib.hid (X2.out.trans hx)
  clear hx q0 X2
  go_wp2
  first | (go_ret2; exact ⟨rfl, X3.out⟩) | (refine bodyPost_ret (v := .tuple #[.string (bs t), .int .i64 0]) ?_ rfl ⟨rfl, X3.out⟩; simp [results, Tryz.results47, go_sem])

/-- The text of a real that is not 0. -/
def prD (m x : Int) : Dec := decV m.natAbs x
def prP (m x : Int) : List UInt8 × Int := shT (prD m x) (m.tmod 2 == 0)
def printV (m x : Int) : List UInt8 := let t := layoutV (prP m x).1 (prP m x).2; if m < 0 then 45 :: t else t
/-- What its loops need to end where they do. -/
def printOK (m x : Int) : Bool :=
  let d0 := decStart m.natAbs x
  let d1 := decUp 60 d0
  let d2 := decDown 60 d1
  upDone 60 d0 && downDone 60 d1 && decide (d1.point ≤ 100) && decide (-100 ≤ d1.point) && decide (d2.num < d2.size) && decide (d2.num < N6) && decide (d2.below < N6) && decide (d2.above < N6) && decide (d2.size < N6) &&
    shortDone (m.tmod 2 == 0) d2.size 60 d2.num d2.below d2.above && decide (-100 ≤ d2.point) && decide (d2.point ≤ 100) && decide (1 ≤ (prP m x).1.length) && decide ((prP m x).1.length ≤ 80) && decide (-200 ≤ (prP m x).2) && decide ((prP m x).2 ≤ 200) && decide ((layoutV (prP m x).1 (prP m x).2).length ≤ 500)
theorem print_any (m x : Int) (hv : validV m x = true) (h0 : m ≠ 0) (hok : printOK m x = true) (w : World) (ht : Pow10 w) :
    Calls Tryz.prog 47 #[.agg #[.int .i64 m, .int .i64 x]] w fun e w' => e = .returned (.tuple #[.string (bs (printV m x)), .int .i64 0]) ∧ Ext w w' := by
  obtain ⟨b1, b2, b3, b4, _⟩ := valid_bd hv
  unfold printOK at hok
  simp only [Bool.and_eq_true, decide_eq_true_eq] at hok
  obtain ⟨⟨⟨⟨⟨⟨⟨⟨⟨⟨⟨⟨⟨⟨⟨⟨k1, k2⟩, k3⟩, k4⟩, k5⟩, k6⟩, k7⟩, k8⟩, k9⟩, k10⟩, k11⟩, k12⟩, k13⟩, k14⟩, k15⟩, k16⟩, k17⟩ := hok
  have hne : (m == 0 && x == 0) = false := by simp [h0]
  have hD : ∀ u, Calls Tryz.prog 115 #[.agg #[.int .i64 m, .int .i64 x]] u fun e w' => e = .returned (.agg #[.int .u64 (L ((prD m x).num) 0), .int .u64 (L ((prD m x).num) 1), .int .u64 (L ((prD m x).num) 2), .int .u64 (L ((prD m x).num) 3), .int .u64 (L ((prD m x).num) 4), .int .u64 (L ((prD m x).num) 5), .int .u64 (L ((prD m x).below) 0), .int .u64 (L ((prD m x).below) 1), .int .u64 (L ((prD m x).below) 2), .int .u64 (L ((prD m x).below) 3), .int .u64 (L ((prD m x).below) 4), .int .u64 (L ((prD m x).below) 5), .int .u64 (L ((prD m x).above) 0), .int .u64 (L ((prD m x).above) 1), .int .u64 (L ((prD m x).above) 2), .int .u64 (L ((prD m x).above) 3), .int .u64 (L ((prD m x).above) 4), .int .u64 (L ((prD m x).above) 5), .int .u64 (L ((prD m x).size) 0), .int .u64 (L ((prD m x).size) 1), .int .u64 (L ((prD m x).size) 2), .int .u64 (L ((prD m x).size) 3), .int .u64 (L ((prD m x).size) 4), .int .u64 (L ((prD m x).size) 5), .int .i64 (prD m x).point]) ∧ Ext u w' :=
    fun u => dec_any m x m.natAbs (by omega) (by omega) b1 b2 b3 b4 (decStart m.natAbs x) (decUp 60 (decStart m.natAbs x)) (prD m x) rfl k1 rfl k2 rfl k3 k4 u
  have SH : ∀ u, Ext w u → Calls Tryz.prog 90 #[.agg #[.int .i64 m, .int .i64 x]] u fun e w' => e = .returned (.tuple #[.string (bs (prP m x).1), .int .i64 (prP m x).2]) ∧ Ext u w' := fun u hx =>
    shortest_any m x (prD m x) (m.tmod 2 == 0) rfl k5 ⟨k6, k7, k8, k9⟩ k10 k11 k12 u (fun d hd u2 hx2 => itoaD_any d hd u2 ((ht.later hx).later hx2)) hD
  have LA : ∀ u, Ext w u → Calls Tryz.prog 89 #[.string (bs (prP m x).1), .int .i64 (prP m x).2] u fun e w' => e = .returned (.string (bs (layoutV (prP m x).1 (prP m x).2))) ∧ Ext u w' := fun u hx =>
    layout_any _ _ k13 k14 k15 k16 u (ht.later hx)
  unfold printV
  simp only
  by_cases hm : m < 0
  · rw [if_pos hm]; exact print_neg m x hv hne hm _ _ _ w SH LA k17
  · rw [if_neg hm]; exact print_pos m x hv hne hm _ _ _ w SH LA
end Go.Proofs.YtogfiekbikechaaGreatDoor

namespace Go.Proofs.YtogfiekbikechaaGreatDoor
open Go.RowKit

/-- A real lies in a block. -/
structure Rc (u : World) (b : Nat) (m x : Int) : Prop where
  c0 : u.cell? ⟨b, 0, none⟩ = some (.int .i64 m)
  c1 : u.cell? ⟨b, 1, none⟩ = some (.int .i64 x)
theorem Rc.later {u v : World} {b : Nat} {m x : Int} (h : Rc u b m x) (hx : Ext u v) : Rc v b m x :=
  ⟨(hx.cell 0 (World.block_lt_of_cell? u _ h.c0)).trans h.c0, (hx.cell 1 (World.block_lt_of_cell? u _ h.c0)).trans h.c1⟩
theorem rc_new (u : World) (m x : Int) (T : TypeId) : Rc (u.alloc (.cells #[.int .i64 m, .int .i64 x] T)) u.heap.size m x := ⟨by simp [go_sem], by simp [go_sem]⟩
/-- The tables that the row lists. -/
structure Tb (w : World) : Prop where
  r : PowR w
  p : Pow10 w
theorem Tb.later {w w' : World} (h : Tb w) (hx : Ext w w') : Tb w' := ⟨h.r.later hx, h.p.later hx⟩

theorem two_any (n : Int) (h1 : -1000 ≤ n) (h2 : n ≤ 1000) (w : World) : Calls Tryz.prog 61 #[.int .i64 n] w fun e w' => e = .returned (.agg #[.int .i64 8388608, .int .i64 (n - 23)]) ∧ Ext w w' := by
  have hw : IntKind.i64.wrap (n - 23) = n - 23 := IntWalk.i64_in _ ⟨by omega, by omega⟩
  go_enter Tryz.func61, Tryz.ntmps61
  go_wp2
  refine bodyPost_ret (v := .agg #[.int .i64 8388608, .int .i64 (n - 23)]) ?_ rfl ⟨rfl, ?_⟩
  · simp [results, Tryz.results61, go_sem]
  · repeat (first | with_reducible exact Ext.refl _ | with_reducible refine Ext.alloc ?_ _ | with_reducible refine Ext.setCell ?_ (by simp) _)
theorem two_at (n k : Int) (h1 : -1000 ≤ n) (h2 : n ≤ 1000) (hk : n - 23 = k) (w : World) : Calls Tryz.prog 61 #[.int .i64 n] w fun e w' => e = .returned (.agg #[.int .i64 8388608, .int .i64 k]) ∧ Ext w w' := by
  subst hk; exact two_any n h1 h2 w
theorem is_true (m x : Int) (w : World) : Calls Tryz.prog 11 #[.agg #[.int .i64 m, .int .i64 x], .int .i64 0, .agg #[.int .i64 m, .int .i64 x]] w fun e w' => e = .returned (.bool true) ∧ Ext w w' := by
  have eqR := eqReal
  have e0 : (m == m && x == x) = true := by simp
  go_enter Tryz.func11, Tryz.ntmps11
  go_wp2
  go_ret
  exact ⟨rfl, by repeat (first | with_reducible exact Ext.refl _ | with_reducible refine Ext.alloc ?_ _)⟩
end Go.Proofs.YtogfiekbikechaaGreatDoor

namespace Go.Proofs.YtogfiekbikechaaGreatDoor
open Go.RowKit

theorem s_add (w : World) : Calls Tryz.prog 28 #[.agg #[.int .i64 8388608, .int .i64 (-23)], .agg #[.int .i64 8388608, .int .i64 (-47)]] w fun e w' => e = .returned (.tuple #[.agg #[.int .i64 8388608, .int .i64 (-23)], .int .i64 0]) ∧ Ext w w' := by
  have h := add_real 8388608 (-23) 8388608 (-47) w
  rw [show combV 8388608 (-23) 8388608 (-47) (sumV 8388608 (-23) 8388608 (-47)) = ((8388608, -23), 0) by decide +kernel] at h
  exact h
theorem s_div (w : World) : Calls Tryz.prog 34 #[.agg #[.int .i64 8388608, .int .i64 (-23)], .agg #[.int .i64 12582912, .int .i64 (-22)]] w fun e w' => e = .returned (.tuple #[.agg #[.int .i64 11184811, .int .i64 (-25)], .int .i64 0]) ∧ Ext w w' := by
  have h := div_real 8388608 (-23) 12582912 (-22) w
  rw [show divV 8388608 (-23) 12582912 (-22) = ((11184811, -25), 0) by decide +kernel] at h
  exact h
theorem s_parse (w : World) (ht : PowR w) : Calls Tryz.prog 45 #[.string ⟨#[48, 46, 49]⟩] w fun e w' => e = .returned (.tuple #[.agg #[.int .i64 13421773, .int .i64 (-27)], .int .i64 0]) ∧ Ext w w' := by
  have h := parse_any [48, 46, 49] (by simp) w ht
  rw [show rparseV [48, 46, 49] = (13421773, -27) by decide +kernel, show rparseE [48, 46, 49] = 0 by decide +kernel] at h
  exact h
theorem s_parse2 (w : World) (ht : PowR w) : Calls Tryz.prog 45 #[.string ⟨#[49, 101, 54, 48]⟩] w fun e w' => e = .returned (.tuple #[.agg #[.int .i64 0, .int .i64 0], .int .i64 3]) ∧ Ext w w' := by
  have h := parse_any [49, 101, 54, 48] (by simp) w ht
  rw [show rparseV [49, 101, 54, 48] = (0, 0) by decide +kernel, show rparseE [49, 101, 54, 48] = 3 by decide +kernel] at h
  exact h
theorem s_print (w : World) (ht : Pow10 w) : Calls Tryz.prog 47 #[.agg #[.int .i64 11184811, .int .i64 (-25)]] w fun e w' => e = .returned (.tuple #[.string ⟨#[48, 46, 51, 51, 51, 51, 51, 51, 51, 52]⟩, .int .i64 0]) ∧ Ext w w' := by
  have h := print_any 11184811 (-25) (by decide +kernel) (by decide) (by decide +kernel) w ht
  rw [show printV 11184811 (-25) = [48, 46, 51, 51, 51, 51, 51, 51, 51, 52] by decide +kernel] at h
  exact h
theorem s_print2 (w : World) (ht : Pow10 w) : Calls Tryz.prog 47 #[.agg #[.int .i64 1, .int .i64 (-150)]] w fun e w' => e = .returned (.tuple #[.string ⟨#[55, 46, 48, 101, 45, 52, 54]⟩, .int .i64 0]) ∧ Ext w w' := by
  have h := print_any 1 (-150) (by decide +kernel) (by decide) (by decide +kernel) w ht
  rw [show printV 1 (-150) = [55, 46, 48, 101, 45, 52, 54] by decide +kernel] at h
  exact h
theorem s_entier (w : World) : Calls Tryz.prog 41 #[.agg #[.int .i64 (-12582912), .int .i64 (-23)]] w fun e w' => e = .returned (.tuple #[.int .i64 (-2), .int .i64 0]) ∧ Ext w w' := by
  have h := entier_any (-12582912) (-23) w
  rw [show wholeR (-12582912) (-23) 0 = (-2, 0) by decide +kernel] at h
  exact h
theorem s_round (w : World) : Calls Tryz.prog 42 #[.agg #[.int .i64 10485760, .int .i64 (-22)]] w fun e w' => e = .returned (.tuple #[.int .i64 3, .int .i64 0]) ∧ Ext w w' := by
  have h := roundR_any 10485760 (-22) w
  rw [show wholeR 10485760 (-22) 1 = (3, 0) by decide +kernel] at h
  exact h
theorem s_fromInt (w : World) : Calls Tryz.prog 13 #[.int .i64 16777217] w fun e w' => e = .returned (.agg #[.int .i64 8388608, .int .i64 1]) ∧ Ext w w' := by
  refine (fromInt_any 16777217 (by omega) (by omega) w).mono fun e w' ⟨h, hx⟩ => ⟨?_, hx⟩
  rw [show (exV 16777217 0).rd = some (8388608, 1) by decide +kernel] at h
  exact h
/-- The three reals that sanity keeps. -/
structure S3 (w : World) (b1 b2 b3 : Nat) (u : World) : Prop where
  r1 : Rc u b1 8388608 (-23)
  r2 : Rc u b2 11184811 (-25)
  r3 : Rc u b3 13421773 (-27)
  x : Ext w u
theorem S3.later {w : World} {b1 b2 b3 : Nat} {u v : World} (h : S3 w b1 b2 b3 u) (hx : Ext u v) : S3 w b1 b2 b3 v := ⟨h.r1.later hx, h.r2.later hx, h.r3.later hx, h.x.trans hx⟩
theorem S3.drew {w : World} {b1 b2 b3 : Nat} {u : World} (h : S3 w b1 b2 b3 u) : S3 w b1 b2 b3 u.drew := h.later ((Ext.refl u).drew)
set_option maxRecDepth 100000 in
set_option maxHeartbeats 8000000 in
theorem sanity_any (w : World) (ht : Tb w) : Calls Tryz.prog 23 #[] w fun e w' => e = .returned (.bool true) ∧ Ext w w' := by
  have HT := Lib.hid ht
  clear ht
  have eqR := eqReal
  go_enter Tryz.func23, Tryz.ntmps23
  go_wp2_with fail
  refine (two_at 0 (-23) (by omega) (by omega) (by omega) _).mono ?_
  rintro e w1 ⟨rfl, hx⟩
  have X1 : Hid (Ext w w1) := Lib.hid (hx)
  clear hx
  have X := X1; clear X1
  go_wp2_with fail
  refine (two_at (-24) (-47) (by omega) (by omega) (by omega) _).mono ?_
  rintro e w2 ⟨rfl, hx⟩
  have X2 : Hid (Ext w w2) := Lib.hid (X.out.trans hx)
  clear hx
  clear X
  have X := X2; clear X2
  go_wp2_with fail
  refine (s_add _).mono ?_
  rintro e w3 ⟨rfl, hx⟩
  have X3 : Hid (Ext w w3) := Lib.hid (X.out.trans hx)
  clear hx
  clear X
  have X := X3; clear X3
  go_wp2_with fail
  refine (two_at 0 (-23) (by omega) (by omega) (by omega) _).mono ?_
  rintro e w4 ⟨rfl, hx⟩
  have R4 : Rc w4 w3.heap.size 8388608 (-23) := (rc_new w3 8388608 (-23) 23).later hx
  have X4 : Hid (Ext w w4) := Lib.hid ((X.out.alloc _).trans hx)
  clear hx
  clear X
  have X := X4; clear X4
  have H4_0 := Lib.hid R4; clear R4
  go_wp2_with fail
  refine (s_div _).mono ?_
  rintro e w5 ⟨rfl, hx⟩
  have X5 : Hid (Ext w w5) := Lib.hid (X.out.trans hx)
  have Q5_0 : Rc w5 w3.heap.size 8388608 (-23) := H4_0.out.later hx
  clear hx
  clear X
  have X := X5; clear X5
  have H5_0 := Lib.hid Q5_0; clear Q5_0
  go_wp2_with fail
  refine (s_parse _ (HT.out.r.later (X.out.alloc _))).mono ?_
  rintro e w6 ⟨rfl, hx⟩
  have R6 : Rc w6 w5.heap.size 11184811 (-25) := (rc_new w5 11184811 (-25) 23).later hx
  have X6 : Hid (Ext w w6) := Lib.hid ((X.out.alloc _).trans hx)
  have Q6_0 : Rc w6 w3.heap.size 8388608 (-23) := ((H5_0.out.later ((Ext.refl _).alloc _))).later hx
  clear hx
  clear X
  have X := X6; clear X6
  have H6_0 := Lib.hid Q6_0; clear Q6_0
  have H6_1 := Lib.hid R6; clear R6
  have g0 : ∀ ob, (w6.alloc ob).cell? ⟨w5.heap.size, 0, none⟩ = some (.int .i64 11184811) := fun ob => (H6_1.out.later ((Ext.refl _).alloc ob)).c0
  have g1 : ∀ ob, (w6.alloc ob).cell? ⟨w5.heap.size, 1, none⟩ = some (.int .i64 (-25)) := fun ob => (H6_1.out.later ((Ext.refl _).alloc ob)).c1
  go_wp2_with fail
  refine (s_print _ (HT.out.p.later (X.out.alloc _))).mono ?_
  rintro e w7 ⟨rfl, hx⟩
  have R7 : Rc w7 w6.heap.size 13421773 (-27) := (rc_new w6 13421773 (-27) 23).later hx
  have X7 : Hid (Ext w w7) := Lib.hid ((X.out.alloc _).trans hx)
  have Q7_0 : Rc w7 w3.heap.size 8388608 (-23) := ((H6_0.out.later ((Ext.refl _).alloc _))).later hx
  have Q7_1 : Rc w7 w5.heap.size 11184811 (-25) := ((H6_1.out.later ((Ext.refl _).alloc _))).later hx
  clear hx
  clear X
  have X := X7; clear X7
  have H7_0 := Lib.hid Q7_0; clear Q7_0
  have H7_1 := Lib.hid Q7_1; clear Q7_1
  have H7_2 := Lib.hid R7; clear R7
  clear g0 g1
  go_upto_region 5 with (fail)
  have HS0 : (S3 w w3.heap.size w5.heap.size w6.heap.size) w7 := ⟨H7_0.out, H7_1.out, H7_2.out, X.out⟩
  refine wp_region_S (S3 w w3.heap.size w5.heap.size w6.heap.size) 26 (by kernel_rfl) ?_
  have HS := HS0.drew
  clear HS0 X H7_0 H7_1 H7_2
  refine GoS.take (i := 0) (v := ?_) rfl (by kernel_rfl) (by kernel_rfl) (by kernel_rfl) (by kernel_rfl) (fun _ _ _ h => h) (Or.inl ⟨by rfl, ?hy1⟩) HS ?_
  case hy1 => ((intro u' hT; have c0 := hT.r1.c0; have c1 := hT.r1.c1; go_simp); try with_reducible rfl)
  try simp only [List.getElem_toArray, List.getElem_cons_zero, Act.put, List.setIfInBounds_toArray, List.set_cons_zero, List.set_cons_succ]
  refine GoS.pure (i := 1) (v := ?_) rfl (by kernel_rfl) (by kernel_rfl) (by kernel_rfl) (by kernel_rfl) (fun _ _ _ h => h) (Or.inl ⟨by rfl, ?hy2⟩) (fun _ => HS) ?_
  case hy2 => ((intro u' hT; go_simp); try with_reducible rfl)
  try simp only [List.getElem_toArray, List.getElem_cons_succ, List.getElem_cons_zero, Act.put, List.setIfInBounds_toArray, List.set_cons_zero, List.set_cons_succ]
  refine GoS.one (i := 2) (by kernel_rfl) rfl (fun K hK => ?_)
  go_simp
  (with_reducible refine (two_at 0 (-23) (by omega) (by omega) (by omega) _).mono ?_)
  rintro e q3 ⟨rfl, hx3⟩
  have HS2 := HS.later hx3
  clear HS; have HS := HS2; clear HS2 hx3
  go_wp2_with fail
  refine hK.out _ _ HS (fun _ => ?_)
  clear hK K
  try simp only [List.getElem_toArray, List.getElem_cons_succ, List.getElem_cons_zero, Act.put, List.setIfInBounds_toArray, List.set_cons_zero, List.set_cons_succ]
  refine GoS.one (i := 3) (by kernel_rfl) rfl (fun K hK => ?_)
  go_simp
  (with_reducible refine (is_true 8388608 (-23) _).mono ?_)
  rintro e q4 ⟨rfl, hx4⟩
  have HS2 := HS.later hx4
  clear HS; have HS := HS2; clear HS2 hx4
  go_wp2_with fail
  refine hK.out _ _ HS (fun _ => ?_)
  clear hK K
  try simp only [List.getElem_toArray, List.getElem_cons_succ, List.getElem_cons_zero, Act.put, List.setIfInBounds_toArray, List.set_cons_zero, List.set_cons_succ]
  refine GoS.pure (i := 4) (v := ?_) rfl (by kernel_rfl) (by kernel_rfl) (by kernel_rfl) (by kernel_rfl) (fun _ _ _ h => h) (Or.inl ⟨by rfl, ?hy5⟩) (fun _ => HS) ?_
  case hy5 => ((intro u' hT; go_simp); try with_reducible rfl)
  try simp only [List.getElem_toArray, List.getElem_cons_succ, List.getElem_cons_zero, Act.put, List.setIfInBounds_toArray, List.set_cons_zero, List.set_cons_succ]
  refine GoS.pure (i := 5) (v := ?_) rfl (by kernel_rfl) (by kernel_rfl) (by kernel_rfl) (by kernel_rfl) (fun _ _ _ h => h) (Or.inl ⟨by rfl, ?hy6⟩) (fun _ => HS) ?_
  case hy6 => ((intro u' hT; go_simp); try with_reducible rfl)
  try simp only [List.getElem_toArray, List.getElem_cons_succ, List.getElem_cons_zero, Act.put, List.setIfInBounds_toArray, List.set_cons_zero, List.set_cons_succ]
  refine GoS.take (i := 6) (v := ?_) rfl (by kernel_rfl) (by kernel_rfl) (by kernel_rfl) (by kernel_rfl) (fun _ _ _ h => h) (Or.inl ⟨by rfl, ?hy7⟩) HS ?_
  case hy7 => ((intro u' hT; have c0 := hT.r2.c0; have c1 := hT.r2.c1; go_simp); try with_reducible rfl)
  try simp only [List.getElem_toArray, List.getElem_cons_succ, List.getElem_cons_zero, Act.put, List.setIfInBounds_toArray, List.set_cons_zero, List.set_cons_succ]
  refine GoS.pure (i := 7) (v := ?_) rfl (by kernel_rfl) (by kernel_rfl) (by kernel_rfl) (by kernel_rfl) (fun _ _ _ h => h) (Or.inl ⟨by rfl, ?hy8⟩) (fun _ => HS) ?_
  case hy8 => ((intro u' hT; go_simp); try with_reducible rfl)
  try simp only [List.getElem_toArray, List.getElem_cons_succ, List.getElem_cons_zero, Act.put, List.setIfInBounds_toArray, List.set_cons_zero, List.set_cons_succ]
  refine GoS.pure (i := 8) (v := ?_) rfl (by kernel_rfl) (by kernel_rfl) (by kernel_rfl) (by kernel_rfl) (fun _ _ _ h => h) (Or.inl ⟨by rfl, ?hy9⟩) (fun _ => HS) ?_
  case hy9 => ((intro u' hT; go_simp); try with_reducible rfl)
  try simp only [List.getElem_toArray, List.getElem_cons_succ, List.getElem_cons_zero, Act.put, List.setIfInBounds_toArray, List.set_cons_zero, List.set_cons_succ]
  refine GoS.one (i := 9) (by kernel_rfl) rfl (fun K hK => ?_)
  go_simp
  (with_reducible refine (is_true 11184811 (-25) _).mono ?_)
  rintro e q10 ⟨rfl, hx10⟩
  have HS2 := HS.later hx10
  clear HS; have HS := HS2; clear HS2 hx10
  go_wp2_with fail
  refine hK.out _ _ HS (fun _ => ?_)
  clear hK K
  try simp only [List.getElem_toArray, List.getElem_cons_succ, List.getElem_cons_zero, Act.put, List.setIfInBounds_toArray, List.set_cons_zero, List.set_cons_succ]
  refine GoS.pure (i := 10) (v := ?_) rfl (by kernel_rfl) (by kernel_rfl) (by kernel_rfl) (by kernel_rfl) (fun _ _ _ h => h) (Or.inl ⟨by rfl, ?hy11⟩) (fun _ => HS) ?_
  case hy11 => ((intro u' hT; go_simp); try with_reducible rfl)
  try simp only [List.getElem_toArray, List.getElem_cons_succ, List.getElem_cons_zero, Act.put, List.setIfInBounds_toArray, List.set_cons_zero, List.set_cons_succ]
  refine GoS.pure (i := 11) (v := ?_) rfl (by kernel_rfl) (by kernel_rfl) (by kernel_rfl) (by kernel_rfl) (fun _ _ _ h => h) (Or.inl ⟨by rfl, ?hy12⟩) (fun _ => HS) ?_
  case hy12 => ((intro u' hT; go_simp); try with_reducible rfl)
  try simp only [List.getElem_toArray, List.getElem_cons_succ, List.getElem_cons_zero, Act.put, List.setIfInBounds_toArray, List.set_cons_zero, List.set_cons_succ]
  refine GoS.pure (i := 12) (v := ?_) rfl (by kernel_rfl) (by kernel_rfl) (by kernel_rfl) (by kernel_rfl) (fun _ _ _ h => h) (Or.inl ⟨by rfl, ?hy13⟩) (fun _ => HS) ?_
  case hy13 => ((intro u' hT; go_simp); try with_reducible rfl)
  try simp only [List.getElem_toArray, List.getElem_cons_succ, List.getElem_cons_zero, Act.put, List.setIfInBounds_toArray, List.set_cons_zero, List.set_cons_succ]
  refine GoS.take (i := 13) (v := ?_) rfl (by kernel_rfl) (by kernel_rfl) (by kernel_rfl) (by kernel_rfl) (fun _ _ _ h => h) (Or.inl ⟨by rfl, ?hy14⟩) HS ?_
  case hy14 => ((intro u' hT; have c0 := hT.r3.c0; have c1 := hT.r3.c1; go_simp); try with_reducible rfl)
  try simp only [List.getElem_toArray, List.getElem_cons_succ, List.getElem_cons_zero, Act.put, List.setIfInBounds_toArray, List.set_cons_zero, List.set_cons_succ]
  refine GoS.pure (i := 14) (v := ?_) rfl (by kernel_rfl) (by kernel_rfl) (by kernel_rfl) (by kernel_rfl) (fun _ _ _ h => h) (Or.inl ⟨by rfl, ?hy15⟩) (fun _ => HS) ?_
  case hy15 => ((intro u' hT; go_simp); try with_reducible rfl)
  try simp only [List.getElem_toArray, List.getElem_cons_succ, List.getElem_cons_zero, Act.put, List.setIfInBounds_toArray, List.set_cons_zero, List.set_cons_succ]
  refine GoS.pure (i := 15) (v := ?_) rfl (by kernel_rfl) (by kernel_rfl) (by kernel_rfl) (by kernel_rfl) (fun _ _ _ h => h) (Or.inl ⟨by rfl, ?hy16⟩) (fun _ => HS) ?_
  case hy16 => ((intro u' hT; go_simp); try with_reducible rfl)
  try simp only [List.getElem_toArray, List.getElem_cons_succ, List.getElem_cons_zero, Act.put, List.setIfInBounds_toArray, List.set_cons_zero, List.set_cons_succ]
  refine GoS.one (i := 16) (by kernel_rfl) rfl (fun K hK => ?_)
  go_simp
  (with_reducible refine (is_true 13421773 (-27) _).mono ?_)
  rintro e q17 ⟨rfl, hx17⟩
  have HS2 := HS.later hx17
  clear HS; have HS := HS2; clear HS2 hx17
  go_wp2_with fail
  refine hK.out _ _ HS (fun _ => ?_)
  clear hK K
  try simp only [List.getElem_toArray, List.getElem_cons_succ, List.getElem_cons_zero, Act.put, List.setIfInBounds_toArray, List.set_cons_zero, List.set_cons_succ]
  refine GoS.pure (i := 17) (v := ?_) rfl (by kernel_rfl) (by kernel_rfl) (by kernel_rfl) (by kernel_rfl) (fun _ _ _ h => h) (Or.inl ⟨by rfl, ?hy18⟩) (fun _ => HS) ?_
  case hy18 => ((intro u' hT; go_simp); try with_reducible rfl)
  try simp only [List.getElem_toArray, List.getElem_cons_succ, List.getElem_cons_zero, Act.put, List.setIfInBounds_toArray, List.set_cons_zero, List.set_cons_succ]
  refine GoS.pure (i := 18) (v := ?_) rfl (by kernel_rfl) (by kernel_rfl) (by kernel_rfl) (by kernel_rfl) (fun _ _ _ h => h) (Or.inl ⟨by rfl, ?hy19⟩) (fun _ => HS) ?_
  case hy19 => ((intro u' hT; go_simp); try with_reducible rfl)
  try simp only [List.getElem_toArray, List.getElem_cons_succ, List.getElem_cons_zero, Act.put, List.setIfInBounds_toArray, List.set_cons_zero, List.set_cons_succ]
  refine GoS.pure (i := 19) (v := ?_) rfl (by kernel_rfl) (by kernel_rfl) (by kernel_rfl) (by kernel_rfl) (fun _ _ _ h => h) (Or.inl ⟨by rfl, ?hy20⟩) (fun _ => HS) ?_
  case hy20 => ((intro u' hT; go_simp); try with_reducible rfl)
  try simp only [List.getElem_toArray, List.getElem_cons_succ, List.getElem_cons_zero, Act.put, List.setIfInBounds_toArray, List.set_cons_zero, List.set_cons_succ]
  refine GoS.pure (i := 20) (v := ?_) rfl (by kernel_rfl) (by kernel_rfl) (by kernel_rfl) (by kernel_rfl) (fun _ _ _ h => h) (Or.inl ⟨by rfl, ?hy21⟩) (fun _ => HS) ?_
  case hy21 => ((intro u' hT; go_simp); try with_reducible rfl)
  try simp only [List.getElem_toArray, List.getElem_cons_succ, List.getElem_cons_zero, Act.put, List.setIfInBounds_toArray, List.set_cons_zero, List.set_cons_succ]
  refine GoS.pure (i := 21) (v := ?_) rfl (by kernel_rfl) (by kernel_rfl) (by kernel_rfl) (by kernel_rfl) (fun _ _ _ h => h) (Or.inl ⟨by rfl, ?hy22⟩) (fun _ => HS) ?_
  case hy22 => ((intro u' hT; go_simp); try with_reducible rfl)
  try simp only [List.getElem_toArray, List.getElem_cons_succ, List.getElem_cons_zero, Act.put, List.setIfInBounds_toArray, List.set_cons_zero, List.set_cons_succ]
  refine GoS.pure (i := 22) (v := ?_) rfl (by kernel_rfl) (by kernel_rfl) (by kernel_rfl) (by kernel_rfl) (fun _ _ _ h => h) (Or.inl ⟨by rfl, ?hy23⟩) (fun _ => HS) ?_
  case hy23 => ((intro u' hT; go_simp); try with_reducible rfl)
  try simp only [List.getElem_toArray, List.getElem_cons_succ, List.getElem_cons_zero, Act.put, List.setIfInBounds_toArray, List.set_cons_zero, List.set_cons_succ]
  refine GoS.pure (i := 23) (v := ?_) rfl (by kernel_rfl) (by kernel_rfl) (by kernel_rfl) (by kernel_rfl) (fun _ _ _ h => h) (Or.inl ⟨by rfl, ?hy24⟩) (fun _ => HS) ?_
  case hy24 => ((intro u' hT; go_simp); try with_reducible rfl)
  try simp only [List.getElem_toArray, List.getElem_cons_succ, List.getElem_cons_zero, Act.put, List.setIfInBounds_toArray, List.set_cons_zero, List.set_cons_succ]
  refine GoS.pure (i := 24) (v := ?_) rfl (by kernel_rfl) (by kernel_rfl) (by kernel_rfl) (by kernel_rfl) (fun _ _ _ h => h) (Or.inl ⟨by rfl, ?hy25⟩) (fun _ => HS) ?_
  case hy25 => ((intro u' hT; go_simp); try with_reducible rfl)
  try simp only [List.getElem_toArray, List.getElem_cons_succ, List.getElem_cons_zero, Act.put, List.setIfInBounds_toArray, List.set_cons_zero, List.set_cons_succ]
  refine GoS.pure (i := 25) (v := ?_) rfl (by kernel_rfl) (by kernel_rfl) (by kernel_rfl) (by kernel_rfl) (fun _ _ _ h => h) (Or.inl ⟨by rfl, ?hy26⟩) (fun _ => HS) ?_
  case hy26 => ((intro u' hT; go_simp); try with_reducible rfl)
  try simp only [List.getElem_toArray, List.getElem_cons_succ, List.getElem_cons_zero, Act.put, List.setIfInBounds_toArray, List.set_cons_zero, List.set_cons_succ]
  refine GoS.store (i := 26) (by kernel_rfl) rfl (by kernel_rfl) (fun K hK => ?_)
  go_simp
  refine hK.out _ _ ?_
  clear hK K
  try simp only [List.getElem_toArray, List.getElem_cons_succ, List.getElem_cons_zero, Act.put, List.setIfInBounds_toArray, List.set_cons_zero, List.set_cons_succ]
  refine GoS.done (by kernel_rfl) ?_
  have X := Lib.hid HS.x; clear HS
  go_wp2_with fail
  refine (s_entier _).mono ?_
  rintro e w8 ⟨rfl, hx⟩
  have X2 := Lib.hid (X.out.trans hx)
  clear X hx; have X := X2; clear X2
  go_wp2_with fail
  refine (s_round _).mono ?_
  rintro e w9 ⟨rfl, hx⟩
  have X2 := Lib.hid (X.out.trans hx)
  clear X hx; have X := X2; clear X2
  go_wp2_with fail
  refine (s_parse2 _ (HT.out.r.later X.out)).mono ?_
  rintro e w10 ⟨rfl, hx⟩
  have X2 := Lib.hid (X.out.trans hx)
  clear X hx; have X := X2; clear X2
  go_wp2_with fail
  refine (pow_none 0 (-1) (by decide +kernel) (by omega) _).mono ?_
  rintro e w11 ⟨rfl, hx⟩
  have X2 := Lib.hid (X.out.trans hx)
  clear X hx; have X := X2; clear X2
  go_wp2_with fail
  refine (s_print2 _ (HT.out.p.later X.out)).mono ?_
  rintro e w12 ⟨rfl, hx⟩
  have X2 := Lib.hid (X.out.trans hx)
  clear X hx; have X := X2; clear X2
  go_wp2_with fail
  refine (s_fromInt _).mono ?_
  rintro e w13 ⟨rfl, hx⟩
  have X2 := Lib.hid (X.out.trans hx)
  clear X hx; have X := X2; clear X2
  go_wp2_with fail
  refine (two_at 24 1 (by omega) (by omega) (by omega) _).mono ?_
  rintro e w14 ⟨rfl, hx⟩
  have X2 := Lib.hid (X.out.trans hx)
  clear X hx; have X := X2; clear X2
  go_wp2
  go_ret
  exact ⟨rfl, X.out⟩
end Go.Proofs.YtogfiekbikechaaGreatDoor
