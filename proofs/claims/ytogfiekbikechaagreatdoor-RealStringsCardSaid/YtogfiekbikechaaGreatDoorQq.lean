/- Layer 2: the reference's Parse. -/
import Derived.Test.YtogfiekbikechaaGreatDoorQp
import Derived.Test.YtogfiekbikechaaGreatDoorQi
namespace Go.Proofs.YtogfiekbikechaaGreatDoor
open Go.ChangeShapes Go.WideShapes Go.ChangeAt Go.RowKit

/-- A quotient of the call's own. -/
structure Qo (w : World) (b : Nat) (s : Bool) (v1 v2 : Value) : Prop where
  c0 : w.cell? ⟨b, 0, none⟩ = some (.bool s)
  c1 : w.cell? ⟨b, 1, none⟩ = some v1
  c2 : w.cell? ⟨b, 2, none⟩ = some v2
  c3 : ∀ j, 3 ≤ j → w.cell? ⟨b, j, none⟩ = none
  fz : ∀ j, w.frozen? ⟨b, j, none⟩ = false
  i1 : isInt v1 = false
  i2 : isInt v2 = false
theorem Qo.lt {w : World} {b : Nat} {s : Bool} {v1 v2 : Value} (h : Qo w b s v1 v2) : b < w.heap.size := World.block_lt_of_cell? w _ h.c0
theorem Qo.later {w w' : World} {b : Nat} {s : Bool} {v1 v2 : Value} (h : Qo w b s v1 v2) (hx : Ext w w') : Qo w' b s v1 v2 :=
  ⟨(hx.cell 0 h.lt).trans h.c0, (hx.cell 1 h.lt).trans h.c1, (hx.cell 2 h.lt).trans h.c2, fun j hj => (hx.cell j h.lt).trans (h.c3 j hj), fun j => (hx.froz j h.lt).trans (h.fz j), h.i1, h.i2⟩
theorem qo_new (w : World) (s : Bool) (v1 v2 : Value) (T : TypeId) (h1 : isInt v1 = false) (h2 : isInt v2 = false) : Qo (w.alloc (.cells #[.bool s, v1, v2] T)) w.heap.size s v1 v2 :=
  ⟨by simp [go_sem], by simp [go_sem], by simp [go_sem], fun j hj => by obtain ⟨i, rfl⟩ : ∃ i, j = i + 3 := ⟨j - 3, by omega⟩; simp [go_sem], fun j => by simp [go_sem], h1, h2⟩
theorem Qo.noInt {w : World} {b : Nat} {s : Bool} {v1 v2 : Value} (h : Qo w b s v1 v2) : NoInt w b := by
  intro o v hv
  rcases o with _ | _ | _ | o
  · rw [h.c0] at hv; cases hv; rfl
  · rw [h.c1] at hv; cases hv; exact h.i1
  · rw [h.c2] at hv; cases hv; exact h.i2
  · rw [h.c3 _ (by omega)] at hv; cases hv
theorem Qo.set0 {w : World} {b : Nat} {s : Bool} {v1 v2 : Value} (h : Qo w b s v1 v2) (t : Bool) : Qo (w.setCell ⟨b, 0, none⟩ (.bool t)) b t v1 v2 :=
  ⟨World.cell?_setCell_same' _ _ _ (by rw [h.c0]; rfl), (cell_aside (.inr (by decide))).trans h.c1, (cell_aside (.inr (by decide))).trans h.c2, fun j hj => (cell_aside (.inr (by omega))).trans (h.c3 j hj), fun j => by rw [World.frozen?_setCell]; exact h.fz j, h.i1, h.i2⟩
theorem Qo.set1 {w : World} {b : Nat} {s : Bool} {v1 v2 : Value} (h : Qo w b s v1 v2) (v : Value) (hv : isInt v = false) : Qo (w.setCell ⟨b, 1, none⟩ v) b s v v2 :=
  ⟨(cell_aside (.inr (by decide))).trans h.c0, World.cell?_setCell_same' _ _ _ (by rw [h.c1]; rfl), (cell_aside (.inr (by decide))).trans h.c2, fun j hj => (cell_aside (.inr (by omega))).trans (h.c3 j hj), fun j => by rw [World.frozen?_setCell]; exact h.fz j, hv, h.i2⟩
theorem Qo.set2 {w : World} {b : Nat} {s : Bool} {v1 v2 : Value} (h : Qo w b s v1 v2) (v : Value) (hv : isInt v = false) : Qo (w.setCell ⟨b, 2, none⟩ v) b s v1 v :=
  ⟨(cell_aside (.inr (by decide))).trans h.c0, (cell_aside (.inr (by decide))).trans h.c1, World.cell?_setCell_same' _ _ _ (by rw [h.c2]; rfl), fun j hj => (cell_aside (.inr (by omega))).trans (h.c3 j hj), fun j => by rw [World.frozen?_setCell]; exact h.fz j, h.i1, hv⟩
/-- A result that is still zero. -/
structure Gz (w : World) (b : Nat) : Prop where
  c0 : w.cell? ⟨b, 0, none⟩ = some (.int .i64 0)
  c1 : w.cell? ⟨b, 1, none⟩ = some (.int .i64 0)
  c2 : w.cell? ⟨b, 2, none⟩ = some (.int .i64 0)
  fz : ∀ j, w.frozen? ⟨b, j, none⟩ = false
theorem Gz.lt {w : World} {b : Nat} (h : Gz w b) : b < w.heap.size := World.block_lt_of_cell? w _ h.c0
theorem Gz.later {w w' : World} {b : Nat} (h : Gz w b) (hx : Ext w w') : Gz w' b :=
  ⟨(hx.cell 0 h.lt).trans h.c0, (hx.cell 1 h.lt).trans h.c1, (hx.cell 2 h.lt).trans h.c2, fun j => (hx.froz j h.lt).trans (h.fz j)⟩
theorem gz_new (w : World) : Gz (w.alloc (.cells #[.int .i64 0, .int .i64 0, .int .i64 0] 48)) w.heap.size := ⟨by simp [go_sem], by simp [go_sem], by simp [go_sem], fun j => by simp [go_sem]⟩
theorem nat_len {w : World} {v : Value} {n : Nat} (h : IsNat w v n) : ∃ a L c, v = .slice a L c ∧ (L = 0 ↔ n = 0) := by
  obtain ⟨a, L, c, e, hC, _⟩ := h.at2
  refine ⟨a, L, c, e, ?_⟩
  obtain ⟨h1, h2⟩ := hC
  constructor
  · intro hl; subst hl; simpa using h1
  · intro hn
    rcases h2 with h2 | h2
    · exact h2
    · exfalso
      have : 0 < 32768 ^ (L - 1) := Nat.pow_pos (by omega)
      omega
abbrev RoundS (s : Bool) (n d : Nat) (V : Value) : Prop := ∀ (u : World) (a1 : Option Addr) (L1 C1 : Nat) (a2 : Option Addr) (L2 C2 : Nat), IsNat u (.slice a1 L1 C1) n → IsNat u (.slice a2 L2 C2) d →
  Calls Tryz.prog 55 #[.agg #[.bool s, .slice a1 L1 C1, .slice a2 L2 C2]] u fun e w' => e = .returned V ∧ Ext u w'
theorem round_s {s : Bool} {n d r : Nat} {V : Value} {a b : Nat} (hd : 0 < d) (hn : n < 2 ^ a) (ha : a ≤ 5000) (hdd : d < 2 ^ b) (hb : b ≤ 5000) (hr : Near (n * tw 151) d r) (hV : rndV (resI s r) = V) : RoundS s n d V := by
  intro u a1 L1 C1 a2 L2 C2 h1 h2
  rw [← hV]
  have t : tw 151 < 2 ^ 152 := Nat.pow_lt_pow_right (by omega) (by omega)
  refine round_nat s a1 a2 L1 C1 L2 C2 n d r (n * tw 151) u h1 h2 hd rfl (fits_mul hn t (by omega)).2 (fun r' hr' => ?_) hr
  obtain ⟨K, hK⟩ : ∃ K : Nat, K = 325 := ⟨_, rfl⟩
  have hm : midN r' < 2 ^ K := Nat.lt_of_le_of_lt (mid_mono_le hr') (mid_top_lt hK)
  exact (fits_mul hm hdd (by omega)).2
abbrev NatIs (D : ByteArray) (n : Nat) : Prop := ∀ w, Calls Tryz.prog 86 #[.string D] w fun x w' => ∃ v, x = .returned v ∧ IsNat w' v n ∧ Ext w w'
abbrev BndIs (E : ByteArray) (b : Nat) : Prop := ∀ w, Calls Tryz.prog 87 #[.string E] w fun x w' => x = .returned (.int .i64 (b : Int)) ∧ Ext w w'

theorem split_any (s : ByteArray) (hs : s.size ≤ 1000) (w : World) : Calls Tryz.prog 85 #[.string s] w fun e w' => SplitTo e s.data.toList ∧ Ext w w' := by
  by_cases h : s.size ≤ 60
  · exact split_walk s h w
  · refine (split_long s (by omega) hs w).mono ?_
    rintro e w' ⟨rfl, hx⟩
    refine ⟨split_bad ?_, hx⟩
    unfold readV
    rw [if_pos]
    rw [show s.data.toList.length = s.size by simp]
    omega
/-- What the reference's Parse reads of a string that it takes. -/
structure PIn (D : ByteArray) (af : Nat) (le : Bool) (E : ByteArray) (n b : Nat) (x0 ex : Int) : Prop where
  na : NatIs D n
  bo : BndIs E b
  b1 : wrap64 (0 - (b : Int)) = -(b : Int)
  b2 : IntKind.i64.wrap (0 - (b : Int)) = -(b : Int)
  b3 : wrap64 (-(b : Int)) = -(b : Int)
  b4 : IntKind.i64.wrap (-(b : Int)) = -(b : Int)
  hx0 : x0 = if le then -(b : Int) else (b : Int)
  e1 : wrap64 (x0 - (af : Int)) = ex
  e2 : IntKind.i64.wrap (x0 - (af : Int)) = ex
/-- .. and gives. -/
structure POut (m x e0 : Int) (mi : Bool) (n : Nat) (ex m1 x1 : Int) (ok1 : Bool) : Prop where
  zero : n = 0 ∨ ex < -200 → 0 = m ∧ 0 = x ∧ 0 = e0
  big : n ≠ 0 → ex > 200 → 0 = m ∧ 0 = x ∧ 3 = e0
  yes : n ≠ 0 → ¬ ex < -200 → ¬ ex > 200 → ok1 = true → m1 = m ∧ x1 = x ∧ 0 = e0
  no : n ≠ 0 → ¬ ex < -200 → ¬ ex > 200 → ok1 = false → 0 = m ∧ 0 = x ∧ 3 = e0
  pos : ¬ ex < -200 → ¬ ex > 200 → ex ≥ 0 → ∃ T, NatTo 88 #[.int .i64 ex] T ∧ Fits (n * T) ∧ RoundS mi (n * T) 1 (.agg #[.int .i64 m1, .int .i64 x1, .bool ok1])
  neg : ¬ ex < -200 → ¬ ex > 200 → ¬ ex ≥ 0 → ∃ (Z : Int) (T : Nat), wrap64 (0 - ex) = Z ∧ IntKind.i64.wrap (0 - ex) = Z ∧ wrap64 (-ex) = Z ∧ IntKind.i64.wrap (-ex) = Z ∧ NatTo 88 #[.int .i64 Z] T ∧ RoundS mi n T (.agg #[.int .i64 m1, .int .i64 x1, .bool ok1])
set_option maxRecDepth 100000 in
set_option maxHeartbeats 8000000 in
theorem rparse_walk (s : ByteArray) (hs : s.size ≤ 1000) (m x e0 : Int) (HB : readV s.data.toList = none → 0 = m ∧ 0 = x ∧ 7 = e0)
    (HG : ∀ mi D af le E, SplitGood s.data.toList mi D af le E → ∃ n b x0 ex m1 x1 ok1, PIn D af le E n b x0 ex ∧ POut m x e0 mi n ex m1 x1 ok1) (w : World) :
    Calls Tryz.prog 46 #[.string s] w fun e w' => e = .returned (.agg #[.int .i64 m, .int .i64 x, .int .i64 e0]) ∧ Ext w w' := by
  have HBB := Lib.hid HB; have HGG := Lib.hid HG; have HSZ := Lib.hid hs; clear HB HG hs
  have S1 := Lib.hid (small_nat 1 (by omega))
  rw [show ((1 : Nat) : Int) = 1 from rfl] at S1
  go_enter Tryz.func46, Tryz.ntmps46
  go_upto_region 1 with (fail)
  have X0 : Hid (Ext w (w.alloc (.cells #[.int .i64 0, .int .i64 0, .int .i64 0] 48))) := Lib.hid ((Ext.refl w).alloc _)
  have G0 := Lib.hid (gz_new w)
  generalize w.alloc (.cells #[.int .i64 0, .int .i64 0, .int .i64 0] 48) = W0 at *
  go_wp2_with fail
  refine (split_any s HSZ.out _).mono ?_
  rintro e w1 ⟨⟨mi, D, af, le, E, ok, rfl, hbad, hgood⟩, hx⟩
  cases ok with
  | false =>
    have E1 := Lib.hid (HBB.out (hbad rfl))
    clear hbad hgood
    have X1 := Lib.hid ((X0.out.trans hx).alloc (.cells #[.bool mi, .string D, .int .i64 (af : Int), .bool le, .string E, .bool false] 94))
    have G1 := Lib.hid (G0.out.later (hx.alloc (.cells #[.bool mi, .string D, .int .i64 (af : Int), .bool le, .string E, .bool false] 94)))
    have m0 : (w1.alloc (.cells #[.bool mi, .string D, .int .i64 (af : Int), .bool le, .string E, .bool false] 94)).cell? ⟨w1.heap.size, 0, none⟩ = some (.bool mi) := by simp [go_sem]
    have m1 : (w1.alloc (.cells #[.bool mi, .string D, .int .i64 (af : Int), .bool le, .string E, .bool false] 94)).cell? ⟨w1.heap.size, 1, none⟩ = some (.string D) := by simp [go_sem]
    have m2 : (w1.alloc (.cells #[.bool mi, .string D, .int .i64 (af : Int), .bool le, .string E, .bool false] 94)).cell? ⟨w1.heap.size, 2, none⟩ = some (.int .i64 (af : Int)) := by simp [go_sem]
    have m3 : (w1.alloc (.cells #[.bool mi, .string D, .int .i64 (af : Int), .bool le, .string E, .bool false] 94)).cell? ⟨w1.heap.size, 3, none⟩ = some (.bool le) := by simp [go_sem]
    have m4 : (w1.alloc (.cells #[.bool mi, .string D, .int .i64 (af : Int), .bool le, .string E, .bool false] 94)).cell? ⟨w1.heap.size, 4, none⟩ = some (.string E) := by simp [go_sem]
    have m5 : (w1.alloc (.cells #[.bool mi, .string D, .int .i64 (af : Int), .bool le, .string E, .bool false] 94)).cell? ⟨w1.heap.size, 5, none⟩ = some (.bool false) := by simp [go_sem]
    have m6 : ∀ j, (w1.alloc (.cells #[.bool mi, .string D, .int .i64 (af : Int), .bool le, .string E, .bool false] 94)).frozen? ⟨w1.heap.size, j, none⟩ = false := fun j => by simp [go_sem]
    have NM : Hid (Nm (w1.alloc (.cells #[.bool mi, .string D, .int .i64 (af : Int), .bool le, .string E, .bool false] 94)) w1.heap.size (.bool mi) (.string D) (.int .i64 (af : Int)) (.bool le) (.string E) (.bool false)) := Lib.hid ⟨m0, m1, m2, m3, m4, m5, m6⟩
    clear hx X0 G0 m0 m1 m2 m3 m4 m5 m6
    go_upto_region 2 with (fail)
    generalize w1.alloc (.cells #[.bool mi, .string D, .int .i64 (af : Int), .bool le, .string E, .bool false] 94) = W1 at *
    generalize w1.heap.size = b3 at *
    have m5 := NM.out.c5
    have z0 := G1.out.c0; have z1 := G1.out.c1; have z2 := G1.out.c2; have zf := G1.out.fz
    go_wp2
    refine bodyPost_ret (v := .agg #[.int .i64 0, .int .i64 0, .int .i64 7]) ?_ rfl ⟨by rw [← E1.out.1, ← E1.out.2.1, ← E1.out.2.2], ?_⟩
    · simp [results, Tryz.results46, go_sem, z0, z1, z2]
    · repeat (first | with_reducible exact X1.out | with_reducible refine Ext.setCell ?_ (by simp) _)
  | true =>
    obtain ⟨n, b, x0, ex, m1, x1, ok1, pin, pout⟩ := HGG.out _ _ _ _ _ (hgood rfl)
    have HPI := Lib.hid pin; have HPO := Lib.hid pout
    clear hbad hgood pin pout
    have X1 := Lib.hid ((X0.out.trans hx).alloc (.cells #[.bool mi, .string D, .int .i64 (af : Int), .bool le, .string E, .bool true] 94))
    have G1 := Lib.hid (G0.out.later (hx.alloc (.cells #[.bool mi, .string D, .int .i64 (af : Int), .bool le, .string E, .bool true] 94)))
    have m0 : (w1.alloc (.cells #[.bool mi, .string D, .int .i64 (af : Int), .bool le, .string E, .bool true] 94)).cell? ⟨w1.heap.size, 0, none⟩ = some (.bool mi) := by simp [go_sem]
    have m1 : (w1.alloc (.cells #[.bool mi, .string D, .int .i64 (af : Int), .bool le, .string E, .bool true] 94)).cell? ⟨w1.heap.size, 1, none⟩ = some (.string D) := by simp [go_sem]
    have m2 : (w1.alloc (.cells #[.bool mi, .string D, .int .i64 (af : Int), .bool le, .string E, .bool true] 94)).cell? ⟨w1.heap.size, 2, none⟩ = some (.int .i64 (af : Int)) := by simp [go_sem]
    have m3 : (w1.alloc (.cells #[.bool mi, .string D, .int .i64 (af : Int), .bool le, .string E, .bool true] 94)).cell? ⟨w1.heap.size, 3, none⟩ = some (.bool le) := by simp [go_sem]
    have m4 : (w1.alloc (.cells #[.bool mi, .string D, .int .i64 (af : Int), .bool le, .string E, .bool true] 94)).cell? ⟨w1.heap.size, 4, none⟩ = some (.string E) := by simp [go_sem]
    have m5 : (w1.alloc (.cells #[.bool mi, .string D, .int .i64 (af : Int), .bool le, .string E, .bool true] 94)).cell? ⟨w1.heap.size, 5, none⟩ = some (.bool true) := by simp [go_sem]
    have m6 : ∀ j, (w1.alloc (.cells #[.bool mi, .string D, .int .i64 (af : Int), .bool le, .string E, .bool true] 94)).frozen? ⟨w1.heap.size, j, none⟩ = false := fun j => by simp [go_sem]
    have NM : Hid (Nm (w1.alloc (.cells #[.bool mi, .string D, .int .i64 (af : Int), .bool le, .string E, .bool true] 94)) w1.heap.size (.bool mi) (.string D) (.int .i64 (af : Int)) (.bool le) (.string E) (.bool true)) := Lib.hid ⟨m0, m1, m2, m3, m4, m5, m6⟩
    clear hx X0 G0 m0 m1 m2 m3 m4 m5 m6
    go_upto_region 2 with (fail)
    generalize w1.alloc (.cells #[.bool mi, .string D, .int .i64 (af : Int), .bool le, .string E, .bool true] 94) = W1 at *
    generalize w1.heap.size = b3 at *
    have m5 := NM.out.c5
    go_upto_region 4 with (fail)
    clear m5
    have m1 := NM.out.c1
    go_wp2_with fail
    refine (HPI.out.na _).mono ?_
    rintro e w4 ⟨v, rfl, hv, hx⟩
    obtain ⟨an, Ln, Cn', hvv, hLn⟩ := nat_len hv
    subst hvv
    have V4 := Lib.hid hv; have X4 := Lib.hid (X1.out.trans hx); have G4 := Lib.hid (G1.out.later hx); have N4 := Lib.hid (NM.out.later hx)
    have HLN := Lib.hid hLn
    clear hv hx m1 X1 G1 NM hLn
    have m4 := N4.out.c4
    go_wp2_with fail
    refine (HPI.out.bo _).mono ?_
    rintro e w5 ⟨rfl, hx⟩
    have V5 := Lib.hid (V4.out.later hx); have X5 := Lib.hid (X4.out.trans hx); have G5 := Lib.hid (G4.out.later hx); have N5 := Lib.hid (N4.out.later hx)
    clear hx m4 V4 X4 G4 N4
    have m3 := N5.out.c3
    go_upto_if 21 with (fail)
    go_cut [5] from 6 (fun y wx => y = .int .i64 x0 ∧ wx = w5)
    case first =>
      have hx0 := HPI.out.hx0; have b1 := HPI.out.b1; have b2 := HPI.out.b2; have b3 := HPI.out.b3; have b4 := HPI.out.b4
      cases le with
      | true =>
        have hx1 : x0 = -(b : Int) := hx0
        clear hx0
        go_wp2_with fail; go_meet; exact ⟨by first | (rw [hx1]; done) | (rw [hx1]; rfl) | (simp [hx1]; done), rfl⟩
      | false =>
        have hx1 : x0 = (b : Int) := hx0
        clear hx0
        go_wp2_with fail; go_meet; exact ⟨by rw [hx1], rfl⟩
    case rest =>
    obtain ⟨rfl, hw⟩ := hcut
    subst hw
    have m2 := N5.out.c2; have e1 := HPI.out.e1; have e2 := HPI.out.e2
    go_upto_region 9 with (fail)
    clear m2 m3 e1 e2
    by_cases hL : Ln = 0
    · subst hL
      have E1 := Lib.hid (HPO.out.zero (.inl (HLN.out.1 rfl)))
      have z0 := G5.out.c0; have z1 := G5.out.c1; have z2 := G5.out.c2; have zf := G5.out.fz
      go_wp2
      refine bodyPost_ret (v := .agg #[.int .i64 0, .int .i64 0, .int .i64 0]) ?_ rfl ⟨by rw [← E1.out.1, ← E1.out.2.1, ← E1.out.2.2], ?_⟩
      · simp [results, Tryz.results46, go_sem, z0, z1, z2]
      · repeat (first | with_reducible exact X5.out | with_reducible refine Ext.setCell ?_ (by simp) _)
    · have HN0 := Lib.hid (fun c => hL (HLN.out.2 c) : n ≠ 0)
      have g1 : ((Ln : Int) == 0) = false := by simpa using hL
      have g2 : ¬ (Ln : Int) = 0 := by omega
      have g3 : (Ln == 0) = false := by simpa using hL
      by_cases g4 : ex < -200
      · have E1 := Lib.hid (HPO.out.zero (.inr g4))
        have z0 := G5.out.c0; have z1 := G5.out.c1; have z2 := G5.out.c2; have zf := G5.out.fz
        go_wp2
        refine bodyPost_ret (v := .agg #[.int .i64 0, .int .i64 0, .int .i64 0]) ?_ rfl ⟨by rw [← E1.out.1, ← E1.out.2.1, ← E1.out.2.2], ?_⟩
        · simp [results, Tryz.results46, go_sem, z0, z1, z2]
        · repeat (first | with_reducible exact X5.out | with_reducible refine Ext.setCell ?_ (by simp) _)
      · by_cases g5 : ex > 200
        · have E1 := Lib.hid (HPO.out.big HN0.out g5)
          have z0 := G5.out.c0; have z1 := G5.out.c1; have z2 := G5.out.c2; have zf := G5.out.fz
          go_wp2
          refine bodyPost_ret (v := .agg #[.int .i64 0, .int .i64 0, .int .i64 3]) ?_ rfl ⟨by rw [← E1.out.1, ← E1.out.2.1, ← E1.out.2.2], ?_⟩
          · simp [results, Tryz.results46, go_sem, z0, z1, z2]
          · repeat (first | with_reducible exact X5.out | with_reducible refine Ext.setCell ?_ (by simp) _)
        · have PY := Lib.hid (HPO.out.yes HN0.out g4 g5); have PN := Lib.hid (HPO.out.no HN0.out g4 g5); have PP := Lib.hid (HPO.out.pos g4 g5); have PQ := Lib.hid (HPO.out.neg g4 g5)
          go_upto_region 13 with (fail)
          clear g1 g2 g3 hL
          go_cut [6] from 8 (fun y wx => ∃ (bq : Nat) (a1 : Option Addr) (L1 C1 : Nat), y = .pointer (some ⟨bq, 0, none⟩) ∧ ∃ u9 : World, u9 = wx ∧ Hid (w.heap.size < bq) ∧ Hid (Qo u9 bq mi (.slice an Ln Cn') (.slice a1 L1 C1)) ∧ Hid (IsNat u9 (.slice an Ln Cn') n) ∧ Hid (IsNat u9 (.slice a1 L1 C1) 1) ∧ Hid (Gz u9 w.heap.size) ∧ Hid (Ext w u9))
          case first =>
            refine wp_region_S (fun uu : World => Ext wc uu) 6 (by kernel_rfl) ?_
            have HS : Ext wc wc.drew := (Ext.refl wc).drew
            refine GoS.pure (i := 0) (v := ?_) rfl (by kernel_rfl) (by kernel_rfl) (by kernel_rfl) (by kernel_rfl) (fun _ _ _ h => h) (Or.inl ⟨by rfl, ?hy1⟩) (fun _ => HS) ?_
            case hy1 => ((intro u' hT; go_simp); try with_reducible rfl)
            try simp only [List.getElem_toArray, List.getElem_cons_zero, Act.put, List.setIfInBounds_toArray, List.set_cons_zero, List.set_cons_succ]
            refine GoS.take (i := 1) (v := ?_) rfl (by kernel_rfl) (by kernel_rfl) (by kernel_rfl) (by kernel_rfl) (fun _ _ _ h => h) (Or.inl ⟨by rfl, ?hy2⟩) HS ?_
            case hy2 => ((intro u' hT; have d1 := (N5.out.later hT).c0; go_simp); try with_reducible rfl)
            try simp only [List.getElem_toArray, List.getElem_cons_succ, List.getElem_cons_zero, Act.put, List.setIfInBounds_toArray, List.set_cons_zero, List.set_cons_succ]
            refine GoS.pure (i := 2) (v := ?_) rfl (by kernel_rfl) (by kernel_rfl) (by kernel_rfl) (by kernel_rfl) (fun _ _ _ h => h) (Or.inl ⟨by rfl, ?hy3⟩) (fun _ => HS) ?_
            case hy3 => ((intro u' hT; go_simp); try with_reducible rfl)
            try simp only [List.getElem_toArray, List.getElem_cons_succ, List.getElem_cons_zero, Act.put, List.setIfInBounds_toArray, List.set_cons_zero, List.set_cons_succ]
            refine GoS.two (i := 3) (j := 5) (by kernel_rfl) rfl rfl (fun K hK => ?_) (fun K hK => ?_)
            · skip
              go_simp
              (with_reducible refine (S1.out _).mono ?_)
              rintro e q4 ⟨v1, rfl, hv, hx⟩
              have HS2 := HS.trans hx; clear HS; have HS := HS2; clear HS2 hx
              go_wp2_with fail
              refine hK.out _ _ HS (fun _ => ?_)
              clear hK K
              try simp only [List.getElem_toArray, List.getElem_cons_succ, List.getElem_cons_zero, Act.put, List.setIfInBounds_toArray, List.set_cons_zero, List.set_cons_succ]
              obtain ⟨a1, L1, C1, rfl⟩ := hv.shape
              have V1 := Lib.hid hv; clear hv
              refine GoS.pure (i := 4) (v := ?_) rfl (by kernel_rfl) (by kernel_rfl) (by kernel_rfl) (by kernel_rfl) (fun _ _ _ h => h) (Or.inl ⟨by rfl, ?hy5⟩) (fun _ => HS) ?_
              case hy5 => ((intro u' hT; go_simp); try with_reducible rfl)
              try simp only [List.getElem_toArray, List.getElem_cons_succ, List.getElem_cons_zero, Act.put, List.setIfInBounds_toArray, List.set_cons_zero, List.set_cons_succ]
              refine GoS.one (i := 5) (by kernel_rfl) rfl (fun K hK => ?_)
              go_simp
              have HSQ := HS
              have HS2 := HS.alloc (.cells #[.bool false, .slice none 0 0, .slice none 0 0] 73); clear HS; have HS := HS2; clear HS2
              refine hK.out _ _ HS (fun _ => ?_)
              clear hK K
              try simp only [List.getElem_toArray, List.getElem_cons_succ, List.getElem_cons_zero, Act.put, List.setIfInBounds_toArray, List.set_cons_zero, List.set_cons_succ]
              have st0 : (q4.alloc (.cells #[.bool false, .slice none 0 0, .slice none 0 0] 73)).cell? ⟨q4.heap.size, 0, none⟩ = some (.bool false) := by simp [go_sem]
              refine GoS.store (i := 6) (by kernel_rfl) rfl (by kernel_rfl) (fun K hK => ?_)
              go_simp
              refine hK.out _ _ ?_
              clear hK K
              try simp only [List.getElem_toArray, List.getElem_cons_succ, List.getElem_cons_zero, Act.put, List.setIfInBounds_toArray, List.set_cons_zero, List.set_cons_succ]
              refine GoS.done (by kernel_rfl) ?_
              clear st0
              have Q9 := Lib.hid (qo_new q4 mi (.slice an Ln Cn') (.slice a1 L1 C1) 73 rfl rfl)
              have E9 := (Ext.refl q4).alloc (.cells #[.bool mi, .slice an Ln Cn', .slice a1 L1 C1] 73)
              have U9 := Lib.hid ((V5.out.later HSQ).later E9); have I9 := Lib.hid (V1.out.later E9); have G9 := Lib.hid ((G5.out.later HSQ).later E9); have X9 := Lib.hid ((X5.out.trans HSQ).trans E9)
              have L9 : Hid (w.heap.size < q4.heap.size) := Lib.hid (G5.out.later HSQ).lt
              clear E9 HS HSQ
              go_wp2_with fail
              go_meet
              exact ⟨_, _, _, _, rfl, _, rfl, L9, Q9, U9, I9, G9, X9⟩
            · skip
              go_simp
              have HSQ := HS
              have HS2 := HS.alloc (.cells #[.bool false, .slice none 0 0, .slice none 0 0] 73); clear HS; have HS := HS2; clear HS2
              refine hK.out _ _ HS (fun _ => ?_)
              clear hK K
              try simp only [List.getElem_toArray, List.getElem_cons_succ, List.getElem_cons_zero, Act.put, List.setIfInBounds_toArray, List.set_cons_zero, List.set_cons_succ]
              have OB : Hid (Qo ((wc.drew).alloc (.cells #[.bool false, .slice none 0 0, .slice none 0 0] 73)) wc.heap.size false (.slice none 0 0) (.slice none 0 0)) := Lib.hid (qo_new (wc.drew) false (.slice none 0 0) (.slice none 0 0) 73 rfl rfl)
              have LB : Hid (w.heap.size < wc.heap.size) := Lib.hid (G5.out.later HSQ).lt
              have LW : Hid (wc.heap.size ≤ wc.heap.size) := Lib.hid (Nat.le_refl _)
              refine GoS.one (i := 3) (by kernel_rfl) rfl (fun K hK => ?_)
              go_simp
              (with_reducible refine (S1.out _).mono ?_)
              rintro e q6 ⟨v1, rfl, hv, hx⟩
              have OC := Lib.hid (OB.out.later hx)
              have HS2 := HS.trans hx; clear HS; have HS := HS2; clear HS2 hx
              go_wp2_with fail
              refine hK.out _ _ HS (fun _ => ?_)
              clear hK K
              try simp only [List.getElem_toArray, List.getElem_cons_succ, List.getElem_cons_zero, Act.put, List.setIfInBounds_toArray, List.set_cons_zero, List.set_cons_succ]
              obtain ⟨a1, L1, C1, rfl⟩ := hv.shape
              have V1 := Lib.hid hv; clear hv
              refine GoS.pure (i := 4) (v := ?_) rfl (by kernel_rfl) (by kernel_rfl) (by kernel_rfl) (by kernel_rfl) (fun _ _ _ h => h) (Or.inl ⟨by rfl, ?hy7⟩) (fun _ => HS) ?_
              case hy7 => ((intro u' hT; go_simp); try with_reducible rfl)
              try simp only [List.getElem_toArray, List.getElem_cons_succ, List.getElem_cons_zero, Act.put, List.setIfInBounds_toArray, List.set_cons_zero, List.set_cons_succ]
              have st0 := OC.out.c0; have st1 := OC.out.c1; have st2 := OC.out.c2; have stf := OC.out.fz
              refine GoS.store (i := 6) (by kernel_rfl) rfl (by kernel_rfl) (fun K hK => ?_)
              go_simp
              refine hK.out _ _ ?_
              clear hK K
              try simp only [List.getElem_toArray, List.getElem_cons_succ, List.getElem_cons_zero, Act.put, List.setIfInBounds_toArray, List.set_cons_zero, List.set_cons_succ]
              refine GoS.done (by kernel_rfl) ?_
              clear st0 st1 st2 stf
              have Q1 := OC.out.set0 mi; have Q2 := Q1.set1 (.slice an Ln Cn') rfl; have Q3 := Lib.hid (Q2.set2 (.slice a1 L1 C1) rfl)
              have U9 := Lib.hid ((((V5.out.later HS).set (u := .bool mi) (p := 0) OC.out.noInt).set (u := .slice an Ln Cn') (p := 1) Q1.noInt).set (u := .slice a1 L1 C1) (p := 2) Q2.noInt)
              have I9 := Lib.hid (((V1.out.set (u := .bool mi) (p := 0) OC.out.noInt).set (u := .slice an Ln Cn') (p := 1) Q1.noInt).set (u := .slice a1 L1 C1) (p := 2) Q2.noInt)
              have EE := ((HS.setCell (p := ⟨wc.heap.size, 0, none⟩) LW.out (.bool mi)).setCell (p := ⟨wc.heap.size, 1, none⟩) LW.out (.slice an Ln Cn')).setCell (p := ⟨wc.heap.size, 2, none⟩) LW.out (.slice a1 L1 C1)
              have G9 := Lib.hid (G5.out.later EE); have X9 := Lib.hid (X5.out.trans EE)
              clear EE HS HSQ Q1 Q2 OB OC
              go_wp2_with fail
              go_meet
              exact ⟨_, _, _, _, rfl, _, rfl, LB, Q3, U9, I9, G9, X9⟩
          case rest =>
            obtain ⟨bq, a1, L1, C1, rfl, u9, hu9, LB, QB, NV, DV, GV, XV⟩ := hcut
            subst hu9
            clear V5 G5 N5 X5 HLN HPI
            by_cases g6 : ex ≥ 0
            · obtain ⟨T, hT, hF, hR⟩ := PP.out g6
              have HTE := Lib.hid hT; have HF := Lib.hid hF; have HRO := Lib.hid hR
              clear hT hF hR PP PQ
              go_wp2_with fail
              refine (HTE.out _).mono ?_
              rintro e w6 ⟨v6, rfl, hv, hx⟩
              have V6 := Lib.hid hv; have Q6 := Lib.hid (QB.out.later hx); have NV6 := Lib.hid (NV.out.later hx); have DV6 := Lib.hid (DV.out.later hx); have G6 := Lib.hid (GV.out.later hx); have X6 := Lib.hid (XV.out.trans hx)
              clear hv hx QB NV DV GV XV
              go_wp2_with fail
              refine (nmul_any NV6.out V6.out HF.out).mono ?_
              rintro e w7 ⟨v7, rfl, hv, hx⟩
              obtain ⟨a7, L7, C7, rfl⟩ := hv.shape
              have V7 := Lib.hid hv; have Q7 := Lib.hid (Q6.out.later hx); have DV7 := Lib.hid (DV6.out.later hx); have G7 := Lib.hid (G6.out.later hx); have X7 := Lib.hid (X6.out.trans hx)
              clear hv hx V6 Q6 NV6 DV6 G6 X6
              have s1 := Q7.out.c1; have sf := Q7.out.fz
              have QW := Lib.hid (Q7.out.set1 (.slice a7 L7 C7) rfl); have NU := Lib.hid (V7.out.set (u := .slice a7 L7 C7) (p := 1) Q7.out.noInt); have DE := Lib.hid (DV7.out.set (u := .slice a7 L7 C7) (p := 1) Q7.out.noInt)
              have XQ := Lib.hid (X7.out.setCell (p := ⟨bq, 1, none⟩) (Nat.le_of_lt LB.out) (.slice a7 L7 C7))
              have GQ : Hid (Gz (w7.setCell ⟨bq, 1, none⟩ (.slice a7 L7 C7)) w.heap.size) := Lib.hid ⟨(cell_aside (.inl (Nat.ne_of_lt LB.out))).trans G7.out.c0, (cell_aside (.inl (Nat.ne_of_lt LB.out))).trans G7.out.c1, (cell_aside (.inl (Nat.ne_of_lt LB.out))).trans G7.out.c2, fun j => by rw [World.frozen?_setCell]; exact G7.out.fz j⟩
              go_upto_region 17 with (fail)
              clear s1 sf Q7 V7 DV7 G7 X7
              generalize w7.setCell ⟨bq, 1, none⟩ (.slice a7 L7 C7) = WQ at *
              cases ok1 with
              | true =>
                have E1 := Lib.hid (PY.out rfl)
                have a0 := QW.out.c0; have a1 := QW.out.c1; have a2 := QW.out.c2
                go_wp2_with fail
                refine (HRO.out _ _ _ _ _ _ _ NU.out DE.out).mono ?_
                rintro e w8 ⟨rfl, hx⟩
                have X8 := Lib.hid ((XQ.out.trans hx).alloc (.cells #[.int .i64 m1, .int .i64 x1, .bool true] 43))
                have G8 := Lib.hid (GQ.out.later (hx.alloc (.cells #[.int .i64 m1, .int .i64 x1, .bool true] 43)))
                have r0 : (w8.alloc (.cells #[.int .i64 m1, .int .i64 x1, .bool true] 43)).cell? ⟨w8.heap.size, 0, none⟩ = some (.int .i64 m1) := by simp [go_sem]
                have r1 : (w8.alloc (.cells #[.int .i64 m1, .int .i64 x1, .bool true] 43)).cell? ⟨w8.heap.size, 1, none⟩ = some (.int .i64 x1) := by simp [go_sem]
                have r2 : (w8.alloc (.cells #[.int .i64 m1, .int .i64 x1, .bool true] 43)).cell? ⟨w8.heap.size, 2, none⟩ = some (.bool true) := by simp [go_sem]
                have NB8 : Hid (w.heap.size ≠ w8.heap.size) := Lib.hid (Nat.ne_of_lt (Nat.lt_of_lt_of_le GQ.out.lt hx.size))
                clear hx a0 a1 a2
                go_upto_region 18 with (fail)
                have nb := NB8.out
                generalize w8.alloc (.cells #[.int .i64 m1, .int .i64 x1, .bool true] 43) = W8 at *
                have z0 := G8.out.c0; have z1 := G8.out.c1; have z2 := G8.out.c2; have zf := G8.out.fz
                go_wp2
                refine bodyPost_ret (v := .agg #[.int .i64 m1, .int .i64 x1, .int .i64 0]) ?_ rfl ⟨by rw [← E1.out.1, ← E1.out.2.1, ← E1.out.2.2], ?_⟩
                · simp [results, Tryz.results46, go_sem, z0, z1, z2]
                · repeat (first | with_reducible exact X8.out | with_reducible refine Ext.setCell ?_ (by simp) _)
              | false =>
                have E1 := Lib.hid (PN.out rfl)
                have a0 := QW.out.c0; have a1 := QW.out.c1; have a2 := QW.out.c2
                go_wp2_with fail
                refine (HRO.out _ _ _ _ _ _ _ NU.out DE.out).mono ?_
                rintro e w8 ⟨rfl, hx⟩
                have X8 := Lib.hid ((XQ.out.trans hx).alloc (.cells #[.int .i64 m1, .int .i64 x1, .bool false] 43))
                have G8 := Lib.hid (GQ.out.later (hx.alloc (.cells #[.int .i64 m1, .int .i64 x1, .bool false] 43)))
                have r0 : (w8.alloc (.cells #[.int .i64 m1, .int .i64 x1, .bool false] 43)).cell? ⟨w8.heap.size, 0, none⟩ = some (.int .i64 m1) := by simp [go_sem]
                have r1 : (w8.alloc (.cells #[.int .i64 m1, .int .i64 x1, .bool false] 43)).cell? ⟨w8.heap.size, 1, none⟩ = some (.int .i64 x1) := by simp [go_sem]
                have r2 : (w8.alloc (.cells #[.int .i64 m1, .int .i64 x1, .bool false] 43)).cell? ⟨w8.heap.size, 2, none⟩ = some (.bool false) := by simp [go_sem]
                have NB8 : Hid (w.heap.size ≠ w8.heap.size) := Lib.hid (Nat.ne_of_lt (Nat.lt_of_lt_of_le GQ.out.lt hx.size))
                clear hx a0 a1 a2
                go_upto_region 18 with (fail)
                have nb := NB8.out
                generalize w8.alloc (.cells #[.int .i64 m1, .int .i64 x1, .bool false] 43) = W8 at *
                have z0 := G8.out.c0; have z1 := G8.out.c1; have z2 := G8.out.c2; have zf := G8.out.fz
                go_wp2
                refine bodyPost_ret (v := .agg #[.int .i64 0, .int .i64 0, .int .i64 3]) ?_ rfl ⟨by rw [← E1.out.1, ← E1.out.2.1, ← E1.out.2.2], ?_⟩
                · simp [results, Tryz.results46, go_sem, z0, z1, z2]
                · repeat (first | with_reducible exact X8.out | with_reducible refine Ext.setCell ?_ (by simp) _)
            · obtain ⟨Z, T, z1, z2, z3, z4, hT, hR⟩ := PQ.out g6
              have HTE := Lib.hid hT; have HRO := Lib.hid hR
              clear hT hR PP PQ
              go_wp2_with fail
              refine (HTE.out _).mono ?_
              rintro e w7 ⟨v7, rfl, hv, hx⟩
              obtain ⟨a7, L7, C7, rfl⟩ := hv.shape
              have V7 := Lib.hid hv; have Q7 := Lib.hid (QB.out.later hx); have NV7 := Lib.hid (NV.out.later hx); have G7 := Lib.hid (GV.out.later hx); have X7 := Lib.hid (XV.out.trans hx)
              clear hv hx QB NV DV GV XV
              have s2 := Q7.out.c2; have sf := Q7.out.fz
              have QW := Lib.hid (Q7.out.set2 (.slice a7 L7 C7) rfl); have DE := Lib.hid (V7.out.set (u := .slice a7 L7 C7) (p := 2) Q7.out.noInt); have NU := Lib.hid (NV7.out.set (u := .slice a7 L7 C7) (p := 2) Q7.out.noInt)
              have XQ := Lib.hid (X7.out.setCell (p := ⟨bq, 2, none⟩) (Nat.le_of_lt LB.out) (.slice a7 L7 C7))
              have GQ : Hid (Gz (w7.setCell ⟨bq, 2, none⟩ (.slice a7 L7 C7)) w.heap.size) := Lib.hid ⟨(cell_aside (.inl (Nat.ne_of_lt LB.out))).trans G7.out.c0, (cell_aside (.inl (Nat.ne_of_lt LB.out))).trans G7.out.c1, (cell_aside (.inl (Nat.ne_of_lt LB.out))).trans G7.out.c2, fun j => by rw [World.frozen?_setCell]; exact G7.out.fz j⟩
              go_upto_region 17 with (fail)
              clear s2 sf Q7 V7 NV7 G7 X7
              generalize w7.setCell ⟨bq, 2, none⟩ (.slice a7 L7 C7) = WQ at *
              cases ok1 with
              | true =>
                have E1 := Lib.hid (PY.out rfl)
                have a0 := QW.out.c0; have a1 := QW.out.c1; have a2 := QW.out.c2
                go_wp2_with fail
                refine (HRO.out _ _ _ _ _ _ _ NU.out DE.out).mono ?_
                rintro e w8 ⟨rfl, hx⟩
                have X8 := Lib.hid ((XQ.out.trans hx).alloc (.cells #[.int .i64 m1, .int .i64 x1, .bool true] 43))
                have G8 := Lib.hid (GQ.out.later (hx.alloc (.cells #[.int .i64 m1, .int .i64 x1, .bool true] 43)))
                have r0 : (w8.alloc (.cells #[.int .i64 m1, .int .i64 x1, .bool true] 43)).cell? ⟨w8.heap.size, 0, none⟩ = some (.int .i64 m1) := by simp [go_sem]
                have r1 : (w8.alloc (.cells #[.int .i64 m1, .int .i64 x1, .bool true] 43)).cell? ⟨w8.heap.size, 1, none⟩ = some (.int .i64 x1) := by simp [go_sem]
                have r2 : (w8.alloc (.cells #[.int .i64 m1, .int .i64 x1, .bool true] 43)).cell? ⟨w8.heap.size, 2, none⟩ = some (.bool true) := by simp [go_sem]
                have NB8 : Hid (w.heap.size ≠ w8.heap.size) := Lib.hid (Nat.ne_of_lt (Nat.lt_of_lt_of_le GQ.out.lt hx.size))
                clear hx a0 a1 a2
                go_upto_region 18 with (fail)
                have nb := NB8.out
                generalize w8.alloc (.cells #[.int .i64 m1, .int .i64 x1, .bool true] 43) = W8 at *
                have z0 := G8.out.c0; have z1 := G8.out.c1; have z2 := G8.out.c2; have zf := G8.out.fz
                go_wp2
                refine bodyPost_ret (v := .agg #[.int .i64 m1, .int .i64 x1, .int .i64 0]) ?_ rfl ⟨by rw [← E1.out.1, ← E1.out.2.1, ← E1.out.2.2], ?_⟩
                · simp [results, Tryz.results46, go_sem, z0, z1, z2]
                · repeat (first | with_reducible exact X8.out | with_reducible refine Ext.setCell ?_ (by simp) _)
              | false =>
                have E1 := Lib.hid (PN.out rfl)
                have a0 := QW.out.c0; have a1 := QW.out.c1; have a2 := QW.out.c2
                go_wp2_with fail
                refine (HRO.out _ _ _ _ _ _ _ NU.out DE.out).mono ?_
                rintro e w8 ⟨rfl, hx⟩
                have X8 := Lib.hid ((XQ.out.trans hx).alloc (.cells #[.int .i64 m1, .int .i64 x1, .bool false] 43))
                have G8 := Lib.hid (GQ.out.later (hx.alloc (.cells #[.int .i64 m1, .int .i64 x1, .bool false] 43)))
                have r0 : (w8.alloc (.cells #[.int .i64 m1, .int .i64 x1, .bool false] 43)).cell? ⟨w8.heap.size, 0, none⟩ = some (.int .i64 m1) := by simp [go_sem]
                have r1 : (w8.alloc (.cells #[.int .i64 m1, .int .i64 x1, .bool false] 43)).cell? ⟨w8.heap.size, 1, none⟩ = some (.int .i64 x1) := by simp [go_sem]
                have r2 : (w8.alloc (.cells #[.int .i64 m1, .int .i64 x1, .bool false] 43)).cell? ⟨w8.heap.size, 2, none⟩ = some (.bool false) := by simp [go_sem]
                have NB8 : Hid (w.heap.size ≠ w8.heap.size) := Lib.hid (Nat.ne_of_lt (Nat.lt_of_lt_of_le GQ.out.lt hx.size))
                clear hx a0 a1 a2
                go_upto_region 18 with (fail)
                have nb := NB8.out
                generalize w8.alloc (.cells #[.int .i64 m1, .int .i64 x1, .bool false] 43) = W8 at *
                have z0 := G8.out.c0; have z1 := G8.out.c1; have z2 := G8.out.c2; have zf := G8.out.fz
                go_wp2
                refine bodyPost_ret (v := .agg #[.int .i64 0, .int .i64 0, .int .i64 3]) ?_ rfl ⟨by rw [← E1.out.1, ← E1.out.2.1, ← E1.out.2.2], ?_⟩
                · simp [results, Tryz.results46, go_sem, z0, z1, z2]
                · repeat (first | with_reducible exact X8.out | with_reducible refine Ext.setCell ?_ (by simp) _)
end Go.Proofs.YtogfiekbikechaaGreatDoor
