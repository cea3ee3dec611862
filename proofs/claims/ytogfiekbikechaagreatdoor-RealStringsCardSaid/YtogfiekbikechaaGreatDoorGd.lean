/- Layer 2: quotients of naturals: plain facts, and the block of their result (no program here). -/
/- Layer 2: equality of naturals, as the model tests it. -/
/- Layer 2: sums, products and quotients that are to be rounded, as plain functions (no program here). -/
/- Layer 2: quotients of naturals, as the program makes them. -/
/- Layer 2: guarded: a rounding that panics becomes ErrRange. -/
/- Layer 2: numeric strings rounded: what lies in memory (no program here). -/
/- Layer 2: numeric strings rounded, as the program does it. -/
import Derived.Test.YtogfiekbikechaaGreatDoorGc
import Derived.Test.YtogfiekbikechaaGreatDoorGa
import Derived.Test.YtogfiekbikechaaGreatDoorProg
import Derived.WalkKit
import Derived.Test.YtogfiekbikechaaGreatDoorGb
import Derived.Deep.RegionHeld3
import Derived.Outline
import Derived.Defers
import Derived.Recover
import Derived.Laws.Pointers
import Derived.Lib.ConvBytes
namespace Go.Proofs.YtogfiekbikechaaGreatDoor
open Go.RowKit

theorem M_eq : M384 = B64 ^ 6 := by decide +kernel
theorem M_N6 : M384 = N6 := M_eq
theorem M_pos : 0 < M384 := by decide +kernel
theorem L_mod (x : Nat) {j : Nat} (h : j < 6) : L (x % M384) j = L x j := by
  unfold L; rw [M_eq]; exact limb_mod B64_pos x h
theorem mod_N6 (x : Nat) : x % M384 < N6 := by rw [← M_N6]; exact Nat.mod_lt _ M_pos
theorem shN_lt (n k : Nat) : shN n k < N6 := mod_N6 _
theorem rstep_lt {b : Nat} {s : Nat × Nat} : (rstep b s).2 < N6 := by
  unfold rstep; split <;> exact mod_N6 _
theorem rsteps_lt {b a : Nat} (h : a < N6) (m k : Nat) : (rsteps b k (m, a)).2 < N6 := by
  cases k with
  | zero => exact h
  | succ k => exact rstep_lt
theorem rstep_man {b : Nat} {s : Nat × Nat} : (rstep b s).1 ≤ s.1 * 2 + 1 := by
  unfold rstep; split
  · exact Nat.le_refl _
  · exact Nat.le_succ _
theorem rsteps_man (b a k : Nat) : (rsteps b k (0, a)).1 < 2 ^ k := by
  induction k with
  | zero => simp [rsteps]
  | succ k ih =>
    have h := rstep_man (b := b) (s := rsteps b k (0, a))
    have e : rsteps b (k + 1) (0, a) = rstep b (rsteps b k (0, a)) := rfl
    rw [e, Nat.pow_succ]; omega
theorem rsteps_man32 (b a : Nat) {k : Nat} (h : k ≤ 32) : (rsteps b k (0, a)).1 < 4294967296 :=
  Nat.lt_of_lt_of_le (rsteps_man b a k) (Nat.pow_le_pow_right (n := 2) (by omega) h)
/-- A round of the division, by what is left. -/
theorem rsteps_ge {b a k : Nat} (h : b ≤ (rsteps b k (0, a)).2) : rsteps b (k + 1) (0, a) = ((rsteps b k (0, a)).1 * 2 + 1, ((rsteps b k (0, a)).2 - b + ((rsteps b k (0, a)).2 - b)) % M384) := by
  show rstep b _ = _
  unfold rstep; rw [if_pos h]
theorem rsteps_lt' {b a k : Nat} (h : ¬ b ≤ (rsteps b k (0, a)).2) : rsteps b (k + 1) (0, a) = ((rsteps b k (0, a)).1 * 2, ((rsteps b k (0, a)).2 + (rsteps b k (0, a)).2) % M384) := by
  show rstep b _ = _
  unfold rstep; rw [if_neg h]

/-- Block b is an exact number that is still zero. -/
structure Ex4 (wr : World) (b : Nat) : Prop where
  c0 : wr.cell? ⟨b, 0, none⟩ = some (.bool false)
  c1 : wr.cell? ⟨b, 1, none⟩ = some (.int .u64 0)
  c2 : wr.cell? ⟨b, 2, none⟩ = some (.int .i64 0)
  c3 : wr.cell? ⟨b, 3, none⟩ = some (.bool false)
  froz : ∀ j, wr.frozen? ⟨b, j, none⟩ = false
theorem Ex4.lt {wr : World} {b : Nat} (h : Ex4 wr b) : b < wr.heap.size := World.block_lt_of_cell? wr _ h.c0
theorem Ex4.later {w wr : World} {b : Nat} (h : Ex4 w b) (hx : Ext w wr) : Ex4 wr b :=
  ⟨(hx.cell 0 h.lt).trans h.c0, (hx.cell 1 h.lt).trans h.c1, (hx.cell 2 h.lt).trans h.c2, (hx.cell 3 h.lt).trans h.c3, fun j => (hx.froz j h.lt).trans (h.froz j)⟩
theorem Ex4.other {w : World} {b c k : Nat} {v : Value} (h : Ex4 w b) (hn : b ≠ c) : Ex4 (w.setCell ⟨c, k, none⟩ v) b := by
  have o : ∀ j, (w.setCell ⟨c, k, none⟩ v).cell? ⟨b, j, none⟩ = w.cell? ⟨b, j, none⟩ := fun j => by
    apply World.cell?_setCell_other; intro e2; simp at e2; try exact hn e2.1.symm
  exact ⟨(o 0).trans h.c0, (o 1).trans h.c1, (o 2).trans h.c2, (o 3).trans h.c3, fun j => by rw [World.frozen?_setCell]; exact h.froz j⟩
theorem Ex4.put_other {w : World} {b c : Nat} {Y : Nat → Nat} (h : Ex4 w b) (hn : b ≠ c) : Ex4 ((((((w.setCell ⟨c, 0, none⟩ (.int .u64 (Y 0))).setCell ⟨c, 1, none⟩ (.int .u64 (Y 1))).setCell ⟨c, 2, none⟩ (.int .u64 (Y 2))).setCell ⟨c, 3, none⟩ (.int .u64 (Y 3))).setCell ⟨c, 4, none⟩ (.int .u64 (Y 4))).setCell ⟨c, 5, none⟩ (.int .u64 (Y 5))) b :=
  (((((h.other hn).other hn).other hn).other hn).other hn).other hn
theorem ex4_new (w : World) (T : TypeId) : Ex4 (w.alloc (.cells #[.bool false, .int .u64 0, .int .i64 0, .bool false] T)) w.heap.size := by
  refine ⟨?_, ?_, ?_, ?_, fun j => ?_⟩ <;> simp [go_sem]
end Go.Proofs.YtogfiekbikechaaGreatDoor

namespace Go.Proofs.YtogfiekbikechaaGreatDoor
open Go.RowKit

theorem eqNat (x0 x1 x2 x3 x4 x5 y0 y1 y2 y3 y4 y5 : Int) (w : World) :
    (Op.equalIn 10000 118 (.agg #[.int .u64 x0, .int .u64 x1, .int .u64 x2, .int .u64 x3, .int .u64 x4, .int .u64 x5]) (.agg #[.int .u64 y0, .int .u64 y1, .int .u64 y2, .int .u64 y3, .int .u64 y4, .int .u64 y5])).run Tryz.prog w =
      .ok (x0 == y0 && (x1 == y1 && (x2 == y2 && (x3 == y3 && (x4 == y4 && x5 == y5))))) w := by
  have u3 := Tryz.underlying64
  have a3 := Tryz.isAgg64
  have z3 := Tryz.sizeOf64
  rw [show (10000 : Nat) = 9999 + 1 from rfl, Op.equalIn]
  simp only [Sem.run_bind, run_underlying Tryz.underlying118, Result.andThen_ok]
  simp only [Std.Legacy.Range.forIn_eq_forIn_range', Std.Legacy.Range.size, Nat.sub_zero, Nat.add_sub_cancel, Nat.div_one, List.range'_succ, List.range'_zero, List.forIn_cons, List.forIn_nil]
  go_simp
  by_cases h0 : x0 = y0
  · by_cases h1 : x1 = y1
    · by_cases h2 : x2 = y2
      · by_cases h3 : x3 = y3
        · by_cases h4 : x4 = y4
          · by_cases h5 : x5 = y5 <;> simp [h0, h1, h2, h3, h4, h5]
          · simp [h0, h1, h2, h3, h4]
        · simp [h0, h1, h2, h3]
      · simp [h0, h1, h2]
    · simp [h0, h1]
  · simp [h0]
end Go.Proofs.YtogfiekbikechaaGreatDoor

namespace Go.Proofs.YtogfiekbikechaaGreatDoor

/-- Whether a mantissa and an exponent are a real's. -/
def validV (m x : Int) : Bool :=
  if m ≤ -16777216 then false else if 16777216 ≤ m then false else if x < -150 then false else if 150 < x then false
  else if m = 0 then decide (x = 0) else if x = -150 then true else if m ≤ -8388608 then true else decide (8388608 ≤ m)

/-- A number that is to be rounded. -/
structure Ex where
  neg : Bool
  man : Nat
  exp : Int
  more : Bool
def exV (m x : Int) : Ex := ⟨decide (m < 0), m.natAbs, x, false⟩
def Ex.rd (a : Ex) : Option (Int × Int) := roundV a.neg a.man a.exp a.more
def sumV (m x n y : Int) : Ex :=
  if m = 0 then exV n y else if n = 0 then exV m x
  else if x < y then (if 32 < y - x then exV n y else exV (n * 2 ^ (y - x).toNat + m) x)
  else (if 32 < x - y then exV m x else exV (m * 2 ^ (x - y).toNat + n) y)
def prodV (m x n y : Int) : Ex := exV (m * n) (x + y)
/-- The leading zeros of 64 bits. -/
def lzV (m : Nat) : Nat := 64 - nb m
def quotV (m x n y : Int) : Ex :=
  ⟨decide (m < 0) != decide (n < 0), m.natAbs * 2 ^ lzV m.natAbs / n.natAbs, x - lzV m.natAbs - y, decide (m.natAbs * 2 ^ lzV m.natAbs % n.natAbs ≠ 0)⟩
def placeV (m x : Int) : Int := if m = 0 then 0 else if m < 0 then m - (x - -150) * 8388608 else m + (x - -150) * 8388608
/-- The real with an index that is not negative. -/
def atP (i : Int) : Int × Int := if i = 0 then (0, 0) else (i - max (i / 8388608 - 1) 0 * 8388608, -150 + max (i / 8388608 - 1) 0)
def atV (i : Int) : Int × Int := if i < 0 then (-(atP (-i)).1, (atP (-i)).2) else atP i
def cmpI (a b : Int) : Int := if a < b then -1 else if b < a then 1 else 0
/-- The greatest integer that is at most twice a real. -/
def halvesV (m x : Int) : Int := if x < -1 then m / 2 ^ (-1 - x).toNat else m * 2 ^ (x + 1).toNat
/-- The greatest integer that is at most a real and p halves, if it is an integer of programs; else an error. -/
def wholeV (m x p : Int) : Int × Int :=
  if 31 < x then (0, 3) else if (halvesV m x + p) / 2 < -2147483647 then (0, 3) else if 2147483647 < (halvesV m x + p) / 2 then (0, 3) else ((halvesV m x + p) / 2, 0)
def wholeR (m x p : Int) : Int × Int := if validV m x then wholeV m x p else (0, 1)
/-- What an operation on two reals returns. -/
def combV (m x n y : Int) (a : Ex) : (Int × Int) × Int := if validV m x && validV n y then (okV a.rd, okE a.rd) else ((0, 0), 1)
/-- What Div returns. -/
def divV (m x n y : Int) : (Int × Int) × Int := if (validV m x && validV n y) && n == 0 then ((0, 0), 5) else combV m x n y (quotV m x n y)
end Go.Proofs.YtogfiekbikechaaGreatDoor

namespace Go.Proofs.YtogfiekbikechaaGreatDoor
open Go.RowKit

theorem length_any (n : Nat) (hn : n < N6) (w : World) :
    Calls Tryz.prog 132 #[.agg #[.int .u64 (L n 0), .int .u64 (L n 1), .int .u64 (L n 2), .int .u64 (L n 3), .int .u64 (L n 4), .int .u64 (L n 5)]] w fun e w' => e = .returned (.int .i64 (nb n)) ∧ Ext w w' := length_V n _ rfl hn w
theorem nb_le384 {n : Nat} (h : n < N6) : nb n ≤ 384 := by
  by_cases h0 : n = 0
  · subst h0; rw [nb_zero]; omega
  · obtain ⟨a, b, c⟩ := nb_lo h0
    have h' : n < 2 ^ 384 := by rw [← N6_eq]; exact h
    have := (Nat.pow_lt_pow_iff_right (by omega)).1 (Nat.lt_of_le_of_lt b h')
    omega

set_option maxRecDepth 100000 in
set_option maxHeartbeats 4000000 in
theorem ratio_pos (a b aa bb s : Nat) (V1 : Nat) (V2 : Int) (V3 : Bool) (hs : s = nb a - nb b) (haa : aa = a) (hbb : bb = shN b s) (hV1 : V1 = (rsteps bb 32 (0, aa)).1) (hV2 : V2 = (s : Int) - 31) (hV3 : V3 = decide ((rsteps bb 32 (0, aa)).2 ≠ 0)) (ha : a < N6) (hb : b < N6) (hg : nb b < nb a) (w : World) :
    Calls Tryz.prog 110 #[.agg #[.int .u64 (L a 0), .int .u64 (L a 1), .int .u64 (L a 2), .int .u64 (L a 3), .int .u64 (L a 4), .int .u64 (L a 5)], .agg #[.int .u64 (L b 0), .int .u64 (L b 1), .int .u64 (L b 2), .int .u64 (L b 3), .int .u64 (L b 4), .int .u64 (L b 5)]] w fun e w' => e = .returned (.agg #[.bool false, .int .u64 V1, .int .i64 V2, .bool V3]) ∧ Ext w w' := by
  have na := nb_le384 ha
  have nb' := nb_le384 hb
  have HA := Lib.hid ha
  have HB := Lib.hid hb
  have HV1 := Lib.hid hV1
  have HV3 := Lib.hid hV3
  clear ha hb hV1 hV3
  have laa : Hid (aa < N6) := Lib.hid (by rw [haa]; exact HA.out)
  have lbb : Hid (bb < N6) := Lib.hid (by rw [hbb]; exact shN_lt _ _)
  have shl : Hid (∀ j, j < 6 → L bb j = L (b * p2 s) j) := Lib.hid (by rw [hbb]; unfold shN p2; exact fun j hj => L_mod _ hj)
  have same : Hid (aa = a) := Lib.hid haa
  have hw : IntKind.i64.wrap ((nb a : Int) - (nb b : Int)) = (s : Int) := by
    rw [IntWalk.i64_in _ ⟨by omega, by omega⟩]; omega
  have hs2 : s ≤ 384 := by omega
  have hs3 : (0 : Int) ≤ s := by omega
  have g0 : (0 : Int) < s := by omega
  have VV := Lib.hid hV2
  clear haa hbb hs hg hV2
  go_enter Tryz.func110, Tryz.ntmps110
  go_wp2
  have S := Lib.hid (((six_new w (L a) 118).later ((Ext.refl _).alloc (.cells #[.int .u64 (L b 0), .int .u64 (L b 1), .int .u64 (L b 2), .int .u64 (L b 3), .int .u64 (L b 4), .int .u64 (L b 5)] 118))).later ((Ext.refl _).alloc (.cells #[.bool false, .int .u64 0, .int .i64 0, .bool false] 66)))
  have M := Lib.hid ((six_new (w.alloc (.cells #[.int .u64 (L a 0), .int .u64 (L a 1), .int .u64 (L a 2), .int .u64 (L a 3), .int .u64 (L a 4), .int .u64 (L a 5)] 118)) (L b) 118).later ((Ext.refl _).alloc (.cells #[.bool false, .int .u64 0, .int .i64 0, .bool false] 66)))
  have R := Lib.hid (ex4_new ((w.alloc (.cells #[.int .u64 (L a 0), .int .u64 (L a 1), .int .u64 (L a 2), .int .u64 (L a 3), .int .u64 (L a 4), .int .u64 (L a 5)] 118)).alloc (.cells #[.int .u64 (L b 0), .int .u64 (L b 1), .int .u64 (L b 2), .int .u64 (L b 3), .int .u64 (L b 4), .int .u64 (L b 5)] 118)) 66)
  have X := Lib.hid ((((Ext.refl w).alloc (.cells #[.int .u64 (L a 0), .int .u64 (L a 1), .int .u64 (L a 2), .int .u64 (L a 3), .int .u64 (L a 4), .int .u64 (L a 5)] 118)).alloc (.cells #[.int .u64 (L b 0), .int .u64 (L b 1), .int .u64 (L b 2), .int .u64 (L b 3), .int .u64 (L b 4), .int .u64 (L b 5)] 118)).alloc (.cells #[.bool false, .int .u64 0, .int .i64 0, .bool false] 66))
  simp only [World.size_alloc] at M R
  obtain ⟨u0, hu0⟩ : ∃ u : World, u = (((w.alloc (.cells #[.int .u64 (L a 0), .int .u64 (L a 1), .int .u64 (L a 2), .int .u64 (L a 3), .int .u64 (L a 4), .int .u64 (L a 5)] 118)).alloc (.cells #[.int .u64 (L b 0), .int .u64 (L b 1), .int .u64 (L b 2), .int .u64 (L b 3), .int .u64 (L b 4), .int .u64 (L b 5)] 118)).alloc (.cells #[.bool false, .int .u64 0, .int .i64 0, .bool false] 66)) := ⟨_, rfl⟩
  rw [← hu0] at S M R X ⊢
  have HU := Lib.hid hu0
  clear hu0
  have keepE : ∀ u u' : World, (fun w' : World => (w'.cell? ⟨w.heap.size, 0, none⟩ = some (.int .u64 (L a 0)) ∧ w'.cell? ⟨w.heap.size, 1, none⟩ = some (.int .u64 (L a 1)) ∧ w'.cell? ⟨w.heap.size, 2, none⟩ = some (.int .u64 (L a 2)) ∧ w'.cell? ⟨w.heap.size, 3, none⟩ = some (.int .u64 (L a 3)) ∧ w'.cell? ⟨w.heap.size, 4, none⟩ = some (.int .u64 (L a 4)) ∧ w'.cell? ⟨w.heap.size, 5, none⟩ = some (.int .u64 (L a 5)) ∧ w'.cell? ⟨(w.heap.size + 1), 0, none⟩ = some (.int .u64 (L b 0)) ∧ w'.cell? ⟨(w.heap.size + 1), 1, none⟩ = some (.int .u64 (L b 1)) ∧ w'.cell? ⟨(w.heap.size + 1), 2, none⟩ = some (.int .u64 (L b 2)) ∧ w'.cell? ⟨(w.heap.size + 1), 3, none⟩ = some (.int .u64 (L b 3)) ∧ w'.cell? ⟨(w.heap.size + 1), 4, none⟩ = some (.int .u64 (L b 4)) ∧ w'.cell? ⟨(w.heap.size + 1), 5, none⟩ = some (.int .u64 (L b 5)))) u → Ext u u' → (fun w' : World => (w'.cell? ⟨w.heap.size, 0, none⟩ = some (.int .u64 (L a 0)) ∧ w'.cell? ⟨w.heap.size, 1, none⟩ = some (.int .u64 (L a 1)) ∧ w'.cell? ⟨w.heap.size, 2, none⟩ = some (.int .u64 (L a 2)) ∧ w'.cell? ⟨w.heap.size, 3, none⟩ = some (.int .u64 (L a 3)) ∧ w'.cell? ⟨w.heap.size, 4, none⟩ = some (.int .u64 (L a 4)) ∧ w'.cell? ⟨w.heap.size, 5, none⟩ = some (.int .u64 (L a 5)) ∧ w'.cell? ⟨(w.heap.size + 1), 0, none⟩ = some (.int .u64 (L b 0)) ∧ w'.cell? ⟨(w.heap.size + 1), 1, none⟩ = some (.int .u64 (L b 1)) ∧ w'.cell? ⟨(w.heap.size + 1), 2, none⟩ = some (.int .u64 (L b 2)) ∧ w'.cell? ⟨(w.heap.size + 1), 3, none⟩ = some (.int .u64 (L b 3)) ∧ w'.cell? ⟨(w.heap.size + 1), 4, none⟩ = some (.int .u64 (L b 4)) ∧ w'.cell? ⟨(w.heap.size + 1), 5, none⟩ = some (.int .u64 (L b 5)))) u' := by
    rintro u u' ⟨g0, g1, g2, g3, g4, g5, g6, g7, g8, g9, g10, g11⟩ hx
    exact ⟨(hx.cell 0 (World.block_lt_of_cell? u _ g0)).trans g0, (hx.cell 1 (World.block_lt_of_cell? u _ g1)).trans g1, (hx.cell 2 (World.block_lt_of_cell? u _ g2)).trans g2, (hx.cell 3 (World.block_lt_of_cell? u _ g3)).trans g3, (hx.cell 4 (World.block_lt_of_cell? u _ g4)).trans g4, (hx.cell 5 (World.block_lt_of_cell? u _ g5)).trans g5, (hx.cell 0 (World.block_lt_of_cell? u _ g6)).trans g6, (hx.cell 1 (World.block_lt_of_cell? u _ g7)).trans g7, (hx.cell 2 (World.block_lt_of_cell? u _ g8)).trans g8, (hx.cell 3 (World.block_lt_of_cell? u _ g9)).trans g9, (hx.cell 4 (World.block_lt_of_cell? u _ g10)).trans g10, (hx.cell 5 (World.block_lt_of_cell? u _ g11)).trans g11⟩
  have keep0 : (fun w' : World => (w'.cell? ⟨w.heap.size, 0, none⟩ = some (.int .u64 (L a 0)) ∧ w'.cell? ⟨w.heap.size, 1, none⟩ = some (.int .u64 (L a 1)) ∧ w'.cell? ⟨w.heap.size, 2, none⟩ = some (.int .u64 (L a 2)) ∧ w'.cell? ⟨w.heap.size, 3, none⟩ = some (.int .u64 (L a 3)) ∧ w'.cell? ⟨w.heap.size, 4, none⟩ = some (.int .u64 (L a 4)) ∧ w'.cell? ⟨w.heap.size, 5, none⟩ = some (.int .u64 (L a 5)) ∧ w'.cell? ⟨(w.heap.size + 1), 0, none⟩ = some (.int .u64 (L b 0)) ∧ w'.cell? ⟨(w.heap.size + 1), 1, none⟩ = some (.int .u64 (L b 1)) ∧ w'.cell? ⟨(w.heap.size + 1), 2, none⟩ = some (.int .u64 (L b 2)) ∧ w'.cell? ⟨(w.heap.size + 1), 3, none⟩ = some (.int .u64 (L b 3)) ∧ w'.cell? ⟨(w.heap.size + 1), 4, none⟩ = some (.int .u64 (L b 4)) ∧ w'.cell? ⟨(w.heap.size + 1), 5, none⟩ = some (.int .u64 (L b 5)))) u0 := by
    obtain ⟨c0, c1, c2, c3, c4, c5⟩ := S.out.cells
    obtain ⟨d0, d1, d2, d3, d4, d5⟩ := M.out.cells
    exact ⟨c0, c1, c2, c3, c4, c5, d0, d1, d2, d3, d4, d5⟩
  have KE := Lib.hid keepE
  have K0 := Lib.hid keep0
  clear keepE keep0
  go_region_held3 (fun w' : World => (w'.cell? ⟨w.heap.size, 0, none⟩ = some (.int .u64 (L a 0)) ∧ w'.cell? ⟨w.heap.size, 1, none⟩ = some (.int .u64 (L a 1)) ∧ w'.cell? ⟨w.heap.size, 2, none⟩ = some (.int .u64 (L a 2)) ∧ w'.cell? ⟨w.heap.size, 3, none⟩ = some (.int .u64 (L a 3)) ∧ w'.cell? ⟨w.heap.size, 4, none⟩ = some (.int .u64 (L a 4)) ∧ w'.cell? ⟨w.heap.size, 5, none⟩ = some (.int .u64 (L a 5)) ∧ w'.cell? ⟨(w.heap.size + 1), 0, none⟩ = some (.int .u64 (L b 0)) ∧ w'.cell? ⟨(w.heap.size + 1), 1, none⟩ = some (.int .u64 (L b 1)) ∧ w'.cell? ⟨(w.heap.size + 1), 2, none⟩ = some (.int .u64 (L b 2)) ∧ w'.cell? ⟨(w.heap.size + 1), 3, none⟩ = some (.int .u64 (L b 3)) ∧ w'.cell? ⟨(w.heap.size + 1), 4, none⟩ = some (.int .u64 (L b 4)) ∧ w'.cell? ⟨(w.heap.size + 1), 5, none⟩ = some (.int .u64 (L b 5)))) ((refine KE.out _ _ K0.out ?_; (repeat (first | with_reducible exact Ext.refl _ | assumption | with_reducible refine Ext.drew ?_ | with_reducible refine Ext.drewN ?_ _ | refine Ext.trans ?_ (by assumption))); done)) (first | (go_at_call 132; ((with_reducible refine (length_any a HA.out _).mono ?_); rintro e v1 ⟨rfl, hx⟩)) | (go_at_call 132; ((with_reducible refine (length_any b HB.out _).mono ?_); rintro e v1 ⟨rfl, hx⟩)))
  have HX : Ext u0 v1 := ((Ext.refl u0).drew.trans (by assumption)).trans hx
  have S2 := Lib.hid (S.out.later HX)
  have M2 := Lib.hid (M.out.later HX)
  have R2 := Lib.hid (R.out.later HX)
  have X2 := Lib.hid (X.out.trans HX)
  clear S M R X
  have S := S2
  have M := M2
  have R := R2
  have X := X2
  clear S2 M2 R2 X2
  clear HX hx KE K0 HU
  obtain ⟨c0, c1, c2, c3, c4, c5⟩ := S.out.cells
  obtain ⟨d0, d1, d2, d3, d4, d5⟩ := M.out.cells
  go_wp2_with fail
  refine (shifted_any b s (by omega) _).mono ?_
  rintro e v2 ⟨rfl, hx2⟩
  clear c0 c1 c2 c3 c4 c5 d0 d1 d2 d3 d4 d5
  have S2 := Lib.hid (S.out.later hx2)
  have M2 := Lib.hid (M.out.later hx2)
  have R2 := Lib.hid (R.out.later hx2)
  have X2 := Lib.hid (X.out.trans hx2)
  clear S M R X
  have S := S2
  have M := M2
  have R := R2
  have X := X2
  clear S2 M2 R2 X2
  clear hx2
  obtain ⟨c0, c1, c2, c3, c4, c5⟩ := S.out.cells
  obtain ⟨d0, d1, d2, d3, d4, d5⟩ := M.out.cells
  have f0 := S.out.froz
  have f1 := M.out.froz
  go_wp2
  clear c0 c1 c2 c3 c4 c5 d0 d1 d2 d3 d4 d5 f0 f1
  have SA : Hid (Six _ w.heap.size (L aa)) := Lib.hid ((S.out.put_other (Y := L (b * p2 s)) (b := w.heap.size + 1) (by omega)).of_eq (fun j _ => by rw [same.out]))
  have MA : Hid (Six _ (w.heap.size + 1) (L bb)) := Lib.hid ((M.out.put (L (b * p2 s))).of_eq (fun j hj => shl.out j hj))
  have RA : Hid (Ex4 _ (w.heap.size + 1 + 1)) := Lib.hid (R.out.put_other (Y := L (b * p2 s)) (c := w.heap.size + 1) (by omega))
  have XA : Hid (Ext w _) := Lib.hid (X.out.put (Y := L (b * p2 s)) (b := w.heap.size + 1) (by omega))
  clear S M R X
  go_loopw [6, 21] (fun mn i wr => ∃ k : Nat, k ≤ 32 ∧ i = .int .i64 k ∧ mn = .int .u64 ((rsteps bb k (0, aa)).1 : Nat) ∧ Six wr w.heap.size (L (rsteps bb k (0, aa)).2) ∧ Six wr (w.heap.size + 1) (L bb) ∧ Ex4 wr (w.heap.size + 1 + 1) ∧ Ext w wr) (fun _ i _ => 32 - (intOf i).toNat)
  case atStart => exact ⟨0, by omega, rfl, rfl, SA.out, MA.out, RA.out, XA.out⟩
  case round =>
    obtain ⟨k, hk, rfl, rfl, hs, hm, hr, hx⟩ := hrel
    clear SA MA RA XA
    have hx6 : Hid ((rsteps bb k (0, aa)).2 < N6) := Lib.hid (rsteps_lt laa.out 0 k)
    have hm32 := rsteps_man32 bb aa hk
    have mw1 : IntKind.u64.wrap (((rsteps bb k (0, aa)).1 : Int) * 2) = ((rsteps bb k (0, aa)).1 : Int) * 2 := IntWalk.u64_in _ ⟨by omega, by omega⟩
    have mw2 : IntKind.u64.wrap (((rsteps bb k (0, aa)).1 : Int) * 2 + 1) = ((rsteps bb k (0, aa)).1 : Int) * 2 + 1 := IntWalk.u64_in _ ⟨by omega, by omega⟩
    have S := Lib.hid hs
    have M := Lib.hid hm
    have R := Lib.hid hr
    have X := Lib.hid hx
    clear hs hm hr hx
    by_cases hlt : k < 32
    · have E1 := Lib.hid (@rsteps_ge bb aa k)
      have E2 := Lib.hid (@rsteps_lt' bb aa k)
      generalize hmx : rsteps bb k (0, aa) = mx at *
      clear hmx
      obtain ⟨m, x⟩ := mx
      simp only at S hx6 hm32 mw1 mw2 E1 E2 ⊢
      obtain ⟨c0, c1, c2, c3, c4, c5⟩ := S.out.cells
      obtain ⟨d0, d1, d2, d3, d4, d5⟩ := M.out.cells
      by_cases hge : bb ≤ x
      · have hcm : (0 : Int) ≤ cmpN x bb := by unfold cmpN; split <;> (try split) <;> omega
        have E := Lib.hid (E1.out hge)
        clear E1 E2
        obtain ⟨d, rfl⟩ : ∃ d, x = d + bb := ⟨x - bb, by omega⟩
        clear hge
        go_wp2_with fail
        refine (compare_any _ _ hx6.out lbb.out _).mono ?_
        rintro e v3 ⟨rfl, hx3⟩
        clear c0 c1 c2 c3 c4 c5 d0 d1 d2 d3 d4 d5
        have S2 := Lib.hid (S.out.later hx3)
        have M2 := Lib.hid (M.out.later hx3)
        have R2 := Lib.hid (R.out.later hx3)
        have X2 := Lib.hid (X.out.trans hx3)
        clear S M R X
        have S := S2
        have M := M2
        have R := R2
        have X := X2
        clear S2 M2 R2 X2
        clear hx3
        obtain ⟨c0, c1, c2, c3, c4, c5⟩ := S.out.cells
        obtain ⟨d0, d1, d2, d3, d4, d5⟩ := M.out.cells
        go_wp2_with fail
        refine (minus_any d bb _).mono ?_
        rintro e v4 ⟨rfl, hx4⟩
        clear c0 c1 c2 c3 c4 c5 d0 d1 d2 d3 d4 d5
        have S2 := Lib.hid (S.out.later hx4)
        have M2 := Lib.hid (M.out.later hx4)
        have R2 := Lib.hid (R.out.later hx4)
        have X2 := Lib.hid (X.out.trans hx4)
        clear S M R X
        have S := S2
        have M := M2
        have R := R2
        have X := X2
        clear S2 M2 R2 X2
        clear hx4
        have S2 := Lib.hid (S.out.put (L d))
        have M2 := Lib.hid (M.out.put_other (Y := L d) (b := w.heap.size) (by omega))
        have R2 := Lib.hid (R.out.put_other (Y := L d) (c := w.heap.size) (by omega))
        have X2 := Lib.hid (X.out.put (Y := L d) (b := w.heap.size) (Nat.le_refl _))
        obtain ⟨c0, c1, c2, c3, c4, c5⟩ := S.out.cells
        have f0 := S.out.froz
        obtain ⟨e0, e1, e2, e3, e4, e5⟩ := S2.out.cells
        clear S M R X
        go_wp2_with fail
        clear c0 c1 c2 c3 c4 c5 f0 e0 e1 e2 e3 e4 e5
        refine (plus_any d d _).mono ?_
        rintro e v5 ⟨rfl, hx5⟩
        have S := Lib.hid (S2.out.later hx5)
        have M := Lib.hid (M2.out.later hx5)
        have R := Lib.hid (R2.out.later hx5)
        have X := Lib.hid (X2.out.trans hx5)
        clear S2 M2 R2 X2 hx5
        obtain ⟨c0, c1, c2, c3, c4, c5⟩ := S.out.cells
        have f0 := S.out.froz
        go_wp2
        go_roundw
        case rel => exact ⟨k + 1, by omega, by go_num, by rw [E.out]; go_num, by rw [E.out]; exact (S.out.put (L (d + d))).of_eq (fun j hj => by rw [L_mod _ hj, Nat.add_sub_cancel]), M.out.put_other (by omega), R.out.put_other (by omega), X.out.put (Nat.le_refl _)⟩
        case measure => simp [intOf]; omega
      · have hcm : ¬ (0 : Int) ≤ cmpN x bb := by unfold cmpN; rw [if_pos (by omega)]; omega
        have E := Lib.hid (E2.out hge)
        clear E1 E2 hge
        go_wp2_with fail
        refine (compare_any _ _ hx6.out lbb.out _).mono ?_
        rintro e v3 ⟨rfl, hx3⟩
        clear c0 c1 c2 c3 c4 c5 d0 d1 d2 d3 d4 d5
        have S2 := Lib.hid (S.out.later hx3)
        have M2 := Lib.hid (M.out.later hx3)
        have R2 := Lib.hid (R.out.later hx3)
        have X2 := Lib.hid (X.out.trans hx3)
        clear S M R X
        have S := S2
        have M := M2
        have R := R2
        have X := X2
        clear S2 M2 R2 X2
        clear hx3
        obtain ⟨c0, c1, c2, c3, c4, c5⟩ := S.out.cells
        go_wp2_with fail
        refine (plus_any x x _).mono ?_
        rintro e v5 ⟨rfl, hx5⟩
        clear c0 c1 c2 c3 c4 c5
        have S2 := Lib.hid (S.out.later hx5)
        have M2 := Lib.hid (M.out.later hx5)
        have R2 := Lib.hid (R.out.later hx5)
        have X2 := Lib.hid (X.out.trans hx5)
        clear S M R X
        have S := S2
        have M := M2
        have R := R2
        have X := X2
        clear S2 M2 R2 X2
        clear hx5
        obtain ⟨c0, c1, c2, c3, c4, c5⟩ := S.out.cells
        have f0 := S.out.froz
        go_wp2
        go_roundw
        case rel => exact ⟨k + 1, by omega, by go_num, by rw [E.out]; go_num, by rw [E.out]; exact (S.out.put (L (x + x))).of_eq (fun j hj => L_mod _ hj), M.out.put_other (by omega), R.out.put_other (by omega), X.out.put (Nat.le_refl _)⟩
        case measure => simp [intOf]; omega
    · obtain rfl : k = 32 := by omega
      have v1 := HV1.out
      have v3 := HV3.out
      have v2 := VV.out
      generalize hmx : rsteps bb 32 (0, aa) = mx at *
      clear hmx HV1 HV3 VV
      obtain ⟨m, x⟩ := mx
      simp only at S hx6 hm32 mw1 mw2 v1 v3 ⊢
      subst v1 v2
      have r0 := R.out.c0
      have r1 := R.out.c1
      have r2 := R.out.c2
      have r3 := R.out.c3
      have rf := R.out.froz
      by_cases hx0 : x = 0
      · subst hx0
        obtain rfl : V3 = false := by rw [v3]; simp
        clear v3
        have S0 : Six wr w.heap.size (fun _ => 0) := S.out.of_eq (fun j _ => (limb_zero _ _).symm)
        obtain ⟨c0, c1, c2, c3, c4, c5⟩ := S0.cells
        clear S0
        have EQ := eqNat 0 0 0 0 0 0 0 0 0 0 0 0
        simp only [beq_self_eq_true, Bool.and_self] at EQ
        go_wp2
        refine bodyPost_ret (v := .agg #[.bool false, .int .u64 V1, .int .i64 ((s : Int) - 31), .bool false]) ?_ rfl ⟨rfl, ?_⟩
        · simp [results, Tryz.results110, go_sem, r0, r1, r2, r3]
        · repeat (first | with_reducible exact X.out | with_reducible refine Ext.setCell ?_ (by first | (simp; done) | (simp; omega)) _)
      · obtain rfl : V3 = true := by rw [v3]; simp [hx0]
        clear v3
        obtain ⟨c0, c1, c2, c3, c4, c5⟩ := S.out.cells
        have hne : ¬ (L x 0 = 0 ∧ L x 1 = 0 ∧ L x 2 = 0 ∧ L x 3 = 0 ∧ L x 4 = 0 ∧ L x 5 = 0) := fun ⟨h0, h1, h2, h3, h4, h5⟩ => hx0 (zero_of_places hx6.out (fun j hj => by
          have : j = 0 ∨ j = 1 ∨ j = 2 ∨ j = 3 ∨ j = 4 ∨ j = 5 := by omega
          rcases this with rfl | rfl | rfl | rfl | rfl | rfl <;> assumption))
        have hbl : ((L x 0 : Int) == 0 && ((L x 1 : Int) == 0 && ((L x 2 : Int) == 0 && ((L x 3 : Int) == 0 && ((L x 4 : Int) == 0 && (L x 5 : Int) == 0))))) = false := by
          rw [← Bool.not_eq_true]; intro h
          simp only [Bool.and_eq_true, beq_iff_eq] at h
          exact hne (by omega)
        have EQ : ∀ w : World, (Op.equalIn 10000 118 (.agg #[.int .u64 (L x 0), .int .u64 (L x 1), .int .u64 (L x 2), .int .u64 (L x 3), .int .u64 (L x 4), .int .u64 (L x 5)]) (.agg #[.int .u64 0, .int .u64 0, .int .u64 0, .int .u64 0, .int .u64 0, .int .u64 0])).run Tryz.prog w = .ok false w := fun w => by rw [eqNat, hbl]
        clear hne hbl
        go_wp2
        refine bodyPost_ret (v := .agg #[.bool false, .int .u64 V1, .int .i64 ((s : Int) - 31), .bool true]) ?_ rfl ⟨rfl, ?_⟩
        · simp [results, Tryz.results110, go_sem, r0, r1, r2, r3]
        · repeat (first | with_reducible exact X.out | with_reducible refine Ext.setCell ?_ (by first | (simp; done) | (simp; omega)) _)

set_option maxRecDepth 100000 in
set_option maxHeartbeats 4000000 in
theorem ratio_neg (a b aa bb s : Nat) (V1 : Nat) (V2 : Int) (V3 : Bool) (hs : s = nb b - nb a) (haa : aa = shN a s) (hbb : bb = b) (hV1 : V1 = (rsteps bb 32 (0, aa)).1) (hV2 : V2 = -(s : Int) - 31) (hV3 : V3 = decide ((rsteps bb 32 (0, aa)).2 ≠ 0)) (ha : a < N6) (hb : b < N6) (hg : nb a ≤ nb b) (w : World) :
    Calls Tryz.prog 110 #[.agg #[.int .u64 (L a 0), .int .u64 (L a 1), .int .u64 (L a 2), .int .u64 (L a 3), .int .u64 (L a 4), .int .u64 (L a 5)], .agg #[.int .u64 (L b 0), .int .u64 (L b 1), .int .u64 (L b 2), .int .u64 (L b 3), .int .u64 (L b 4), .int .u64 (L b 5)]] w fun e w' => e = .returned (.agg #[.bool false, .int .u64 V1, .int .i64 V2, .bool V3]) ∧ Ext w w' := by
  have na := nb_le384 ha
  have nb' := nb_le384 hb
  have HA := Lib.hid ha
  have HB := Lib.hid hb
  have HV1 := Lib.hid hV1
  have HV3 := Lib.hid hV3
  clear ha hb hV1 hV3
  have laa : Hid (aa < N6) := Lib.hid (by rw [haa]; exact shN_lt _ _)
  have lbb : Hid (bb < N6) := Lib.hid (by rw [hbb]; exact HB.out)
  have shl : Hid (∀ j, j < 6 → L aa j = L (a * p2 s) j) := Lib.hid (by rw [haa]; unfold shN p2; exact fun j hj => L_mod _ hj)
  have same : Hid (bb = b) := Lib.hid hbb
  have hw : IntKind.i64.wrap ((nb a : Int) - (nb b : Int)) = -(s : Int) := by
    rw [IntWalk.i64_in _ ⟨by omega, by omega⟩]; omega
  have hs2 : s ≤ 384 := by omega
  have hs3 : (0 : Int) ≤ s := by omega
  have g0 : ¬ (0 : Int) < -(s : Int) := by omega
  have VV := Lib.hid hV2
  clear haa hbb hs hg hV2
  go_enter Tryz.func110, Tryz.ntmps110
  go_wp2
  have S := Lib.hid (((six_new w (L a) 118).later ((Ext.refl _).alloc (.cells #[.int .u64 (L b 0), .int .u64 (L b 1), .int .u64 (L b 2), .int .u64 (L b 3), .int .u64 (L b 4), .int .u64 (L b 5)] 118))).later ((Ext.refl _).alloc (.cells #[.bool false, .int .u64 0, .int .i64 0, .bool false] 66)))
  have M := Lib.hid ((six_new (w.alloc (.cells #[.int .u64 (L a 0), .int .u64 (L a 1), .int .u64 (L a 2), .int .u64 (L a 3), .int .u64 (L a 4), .int .u64 (L a 5)] 118)) (L b) 118).later ((Ext.refl _).alloc (.cells #[.bool false, .int .u64 0, .int .i64 0, .bool false] 66)))
  have R := Lib.hid (ex4_new ((w.alloc (.cells #[.int .u64 (L a 0), .int .u64 (L a 1), .int .u64 (L a 2), .int .u64 (L a 3), .int .u64 (L a 4), .int .u64 (L a 5)] 118)).alloc (.cells #[.int .u64 (L b 0), .int .u64 (L b 1), .int .u64 (L b 2), .int .u64 (L b 3), .int .u64 (L b 4), .int .u64 (L b 5)] 118)) 66)
  have X := Lib.hid ((((Ext.refl w).alloc (.cells #[.int .u64 (L a 0), .int .u64 (L a 1), .int .u64 (L a 2), .int .u64 (L a 3), .int .u64 (L a 4), .int .u64 (L a 5)] 118)).alloc (.cells #[.int .u64 (L b 0), .int .u64 (L b 1), .int .u64 (L b 2), .int .u64 (L b 3), .int .u64 (L b 4), .int .u64 (L b 5)] 118)).alloc (.cells #[.bool false, .int .u64 0, .int .i64 0, .bool false] 66))
  simp only [World.size_alloc] at M R
  obtain ⟨u0, hu0⟩ : ∃ u : World, u = (((w.alloc (.cells #[.int .u64 (L a 0), .int .u64 (L a 1), .int .u64 (L a 2), .int .u64 (L a 3), .int .u64 (L a 4), .int .u64 (L a 5)] 118)).alloc (.cells #[.int .u64 (L b 0), .int .u64 (L b 1), .int .u64 (L b 2), .int .u64 (L b 3), .int .u64 (L b 4), .int .u64 (L b 5)] 118)).alloc (.cells #[.bool false, .int .u64 0, .int .i64 0, .bool false] 66)) := ⟨_, rfl⟩
  rw [← hu0] at S M R X ⊢
  have HU := Lib.hid hu0
  clear hu0
  have keepE : ∀ u u' : World, (fun w' : World => (w'.cell? ⟨w.heap.size, 0, none⟩ = some (.int .u64 (L a 0)) ∧ w'.cell? ⟨w.heap.size, 1, none⟩ = some (.int .u64 (L a 1)) ∧ w'.cell? ⟨w.heap.size, 2, none⟩ = some (.int .u64 (L a 2)) ∧ w'.cell? ⟨w.heap.size, 3, none⟩ = some (.int .u64 (L a 3)) ∧ w'.cell? ⟨w.heap.size, 4, none⟩ = some (.int .u64 (L a 4)) ∧ w'.cell? ⟨w.heap.size, 5, none⟩ = some (.int .u64 (L a 5)) ∧ w'.cell? ⟨(w.heap.size + 1), 0, none⟩ = some (.int .u64 (L b 0)) ∧ w'.cell? ⟨(w.heap.size + 1), 1, none⟩ = some (.int .u64 (L b 1)) ∧ w'.cell? ⟨(w.heap.size + 1), 2, none⟩ = some (.int .u64 (L b 2)) ∧ w'.cell? ⟨(w.heap.size + 1), 3, none⟩ = some (.int .u64 (L b 3)) ∧ w'.cell? ⟨(w.heap.size + 1), 4, none⟩ = some (.int .u64 (L b 4)) ∧ w'.cell? ⟨(w.heap.size + 1), 5, none⟩ = some (.int .u64 (L b 5)))) u → Ext u u' → (fun w' : World => (w'.cell? ⟨w.heap.size, 0, none⟩ = some (.int .u64 (L a 0)) ∧ w'.cell? ⟨w.heap.size, 1, none⟩ = some (.int .u64 (L a 1)) ∧ w'.cell? ⟨w.heap.size, 2, none⟩ = some (.int .u64 (L a 2)) ∧ w'.cell? ⟨w.heap.size, 3, none⟩ = some (.int .u64 (L a 3)) ∧ w'.cell? ⟨w.heap.size, 4, none⟩ = some (.int .u64 (L a 4)) ∧ w'.cell? ⟨w.heap.size, 5, none⟩ = some (.int .u64 (L a 5)) ∧ w'.cell? ⟨(w.heap.size + 1), 0, none⟩ = some (.int .u64 (L b 0)) ∧ w'.cell? ⟨(w.heap.size + 1), 1, none⟩ = some (.int .u64 (L b 1)) ∧ w'.cell? ⟨(w.heap.size + 1), 2, none⟩ = some (.int .u64 (L b 2)) ∧ w'.cell? ⟨(w.heap.size + 1), 3, none⟩ = some (.int .u64 (L b 3)) ∧ w'.cell? ⟨(w.heap.size + 1), 4, none⟩ = some (.int .u64 (L b 4)) ∧ w'.cell? ⟨(w.heap.size + 1), 5, none⟩ = some (.int .u64 (L b 5)))) u' := by
    rintro u u' ⟨g0, g1, g2, g3, g4, g5, g6, g7, g8, g9, g10, g11⟩ hx
    exact ⟨(hx.cell 0 (World.block_lt_of_cell? u _ g0)).trans g0, (hx.cell 1 (World.block_lt_of_cell? u _ g1)).trans g1, (hx.cell 2 (World.block_lt_of_cell? u _ g2)).trans g2, (hx.cell 3 (World.block_lt_of_cell? u _ g3)).trans g3, (hx.cell 4 (World.block_lt_of_cell? u _ g4)).trans g4, (hx.cell 5 (World.block_lt_of_cell? u _ g5)).trans g5, (hx.cell 0 (World.block_lt_of_cell? u _ g6)).trans g6, (hx.cell 1 (World.block_lt_of_cell? u _ g7)).trans g7, (hx.cell 2 (World.block_lt_of_cell? u _ g8)).trans g8, (hx.cell 3 (World.block_lt_of_cell? u _ g9)).trans g9, (hx.cell 4 (World.block_lt_of_cell? u _ g10)).trans g10, (hx.cell 5 (World.block_lt_of_cell? u _ g11)).trans g11⟩
  have keep0 : (fun w' : World => (w'.cell? ⟨w.heap.size, 0, none⟩ = some (.int .u64 (L a 0)) ∧ w'.cell? ⟨w.heap.size, 1, none⟩ = some (.int .u64 (L a 1)) ∧ w'.cell? ⟨w.heap.size, 2, none⟩ = some (.int .u64 (L a 2)) ∧ w'.cell? ⟨w.heap.size, 3, none⟩ = some (.int .u64 (L a 3)) ∧ w'.cell? ⟨w.heap.size, 4, none⟩ = some (.int .u64 (L a 4)) ∧ w'.cell? ⟨w.heap.size, 5, none⟩ = some (.int .u64 (L a 5)) ∧ w'.cell? ⟨(w.heap.size + 1), 0, none⟩ = some (.int .u64 (L b 0)) ∧ w'.cell? ⟨(w.heap.size + 1), 1, none⟩ = some (.int .u64 (L b 1)) ∧ w'.cell? ⟨(w.heap.size + 1), 2, none⟩ = some (.int .u64 (L b 2)) ∧ w'.cell? ⟨(w.heap.size + 1), 3, none⟩ = some (.int .u64 (L b 3)) ∧ w'.cell? ⟨(w.heap.size + 1), 4, none⟩ = some (.int .u64 (L b 4)) ∧ w'.cell? ⟨(w.heap.size + 1), 5, none⟩ = some (.int .u64 (L b 5)))) u0 := by
    obtain ⟨c0, c1, c2, c3, c4, c5⟩ := S.out.cells
    obtain ⟨d0, d1, d2, d3, d4, d5⟩ := M.out.cells
    exact ⟨c0, c1, c2, c3, c4, c5, d0, d1, d2, d3, d4, d5⟩
  have KE := Lib.hid keepE
  have K0 := Lib.hid keep0
  clear keepE keep0
  go_region_held3 (fun w' : World => (w'.cell? ⟨w.heap.size, 0, none⟩ = some (.int .u64 (L a 0)) ∧ w'.cell? ⟨w.heap.size, 1, none⟩ = some (.int .u64 (L a 1)) ∧ w'.cell? ⟨w.heap.size, 2, none⟩ = some (.int .u64 (L a 2)) ∧ w'.cell? ⟨w.heap.size, 3, none⟩ = some (.int .u64 (L a 3)) ∧ w'.cell? ⟨w.heap.size, 4, none⟩ = some (.int .u64 (L a 4)) ∧ w'.cell? ⟨w.heap.size, 5, none⟩ = some (.int .u64 (L a 5)) ∧ w'.cell? ⟨(w.heap.size + 1), 0, none⟩ = some (.int .u64 (L b 0)) ∧ w'.cell? ⟨(w.heap.size + 1), 1, none⟩ = some (.int .u64 (L b 1)) ∧ w'.cell? ⟨(w.heap.size + 1), 2, none⟩ = some (.int .u64 (L b 2)) ∧ w'.cell? ⟨(w.heap.size + 1), 3, none⟩ = some (.int .u64 (L b 3)) ∧ w'.cell? ⟨(w.heap.size + 1), 4, none⟩ = some (.int .u64 (L b 4)) ∧ w'.cell? ⟨(w.heap.size + 1), 5, none⟩ = some (.int .u64 (L b 5)))) ((refine KE.out _ _ K0.out ?_; (repeat (first | with_reducible exact Ext.refl _ | assumption | with_reducible refine Ext.drew ?_ | with_reducible refine Ext.drewN ?_ _ | refine Ext.trans ?_ (by assumption))); done)) (first | (go_at_call 132; ((with_reducible refine (length_any a HA.out _).mono ?_); rintro e v1 ⟨rfl, hx⟩)) | (go_at_call 132; ((with_reducible refine (length_any b HB.out _).mono ?_); rintro e v1 ⟨rfl, hx⟩)))
  have HX : Ext u0 v1 := ((Ext.refl u0).drew.trans (by assumption)).trans hx
  have S2 := Lib.hid (S.out.later HX)
  have M2 := Lib.hid (M.out.later HX)
  have R2 := Lib.hid (R.out.later HX)
  have X2 := Lib.hid (X.out.trans HX)
  clear S M R X
  have S := S2
  have M := M2
  have R := R2
  have X := X2
  clear S2 M2 R2 X2
  clear HX hx KE K0 HU
  obtain ⟨c0, c1, c2, c3, c4, c5⟩ := S.out.cells
  obtain ⟨d0, d1, d2, d3, d4, d5⟩ := M.out.cells
  go_wp2_with fail
  refine (shifted_any a s (by omega) _).mono ?_
  rintro e v2 ⟨rfl, hx2⟩
  clear c0 c1 c2 c3 c4 c5 d0 d1 d2 d3 d4 d5
  have S2 := Lib.hid (S.out.later hx2)
  have M2 := Lib.hid (M.out.later hx2)
  have R2 := Lib.hid (R.out.later hx2)
  have X2 := Lib.hid (X.out.trans hx2)
  clear S M R X
  have S := S2
  have M := M2
  have R := R2
  have X := X2
  clear S2 M2 R2 X2
  clear hx2
  obtain ⟨c0, c1, c2, c3, c4, c5⟩ := S.out.cells
  obtain ⟨d0, d1, d2, d3, d4, d5⟩ := M.out.cells
  have f0 := S.out.froz
  have f1 := M.out.froz
  go_wp2
  clear c0 c1 c2 c3 c4 c5 d0 d1 d2 d3 d4 d5 f0 f1
  have SA : Hid (Six _ w.heap.size (L aa)) := Lib.hid ((S.out.put (L (a * p2 s))).of_eq (fun j hj => shl.out j hj))
  have MA : Hid (Six _ (w.heap.size + 1) (L bb)) := Lib.hid ((M.out.put_other (Y := L (a * p2 s)) (b := w.heap.size) (by omega)).of_eq (fun j _ => by rw [same.out]))
  have RA : Hid (Ex4 _ (w.heap.size + 1 + 1)) := Lib.hid (R.out.put_other (Y := L (a * p2 s)) (c := w.heap.size) (by omega))
  have XA : Hid (Ext w _) := Lib.hid (X.out.put (Y := L (a * p2 s)) (b := w.heap.size) (by omega))
  clear S M R X
  go_loopw [6, 21] (fun mn i wr => ∃ k : Nat, k ≤ 32 ∧ i = .int .i64 k ∧ mn = .int .u64 ((rsteps bb k (0, aa)).1 : Nat) ∧ Six wr w.heap.size (L (rsteps bb k (0, aa)).2) ∧ Six wr (w.heap.size + 1) (L bb) ∧ Ex4 wr (w.heap.size + 1 + 1) ∧ Ext w wr) (fun _ i _ => 32 - (intOf i).toNat)
  case atStart => exact ⟨0, by omega, rfl, rfl, SA.out, MA.out, RA.out, XA.out⟩
  case round =>
    obtain ⟨k, hk, rfl, rfl, hs, hm, hr, hx⟩ := hrel
    clear SA MA RA XA
    have hx6 : Hid ((rsteps bb k (0, aa)).2 < N6) := Lib.hid (rsteps_lt laa.out 0 k)
    have hm32 := rsteps_man32 bb aa hk
    have mw1 : IntKind.u64.wrap (((rsteps bb k (0, aa)).1 : Int) * 2) = ((rsteps bb k (0, aa)).1 : Int) * 2 := IntWalk.u64_in _ ⟨by omega, by omega⟩
    have mw2 : IntKind.u64.wrap (((rsteps bb k (0, aa)).1 : Int) * 2 + 1) = ((rsteps bb k (0, aa)).1 : Int) * 2 + 1 := IntWalk.u64_in _ ⟨by omega, by omega⟩
    have S := Lib.hid hs
    have M := Lib.hid hm
    have R := Lib.hid hr
    have X := Lib.hid hx
    clear hs hm hr hx
    by_cases hlt : k < 32
    · have E1 := Lib.hid (@rsteps_ge bb aa k)
      have E2 := Lib.hid (@rsteps_lt' bb aa k)
      generalize hmx : rsteps bb k (0, aa) = mx at *
      clear hmx
      obtain ⟨m, x⟩ := mx
      simp only at S hx6 hm32 mw1 mw2 E1 E2 ⊢
      obtain ⟨c0, c1, c2, c3, c4, c5⟩ := S.out.cells
      obtain ⟨d0, d1, d2, d3, d4, d5⟩ := M.out.cells
      by_cases hge : bb ≤ x
      · have hcm : (0 : Int) ≤ cmpN x bb := by unfold cmpN; split <;> (try split) <;> omega
        have E := Lib.hid (E1.out hge)
        clear E1 E2
        obtain ⟨d, rfl⟩ : ∃ d, x = d + bb := ⟨x - bb, by omega⟩
        clear hge
        go_wp2_with fail
        refine (compare_any _ _ hx6.out lbb.out _).mono ?_
        rintro e v3 ⟨rfl, hx3⟩
        clear c0 c1 c2 c3 c4 c5 d0 d1 d2 d3 d4 d5
        have S2 := Lib.hid (S.out.later hx3)
        have M2 := Lib.hid (M.out.later hx3)
        have R2 := Lib.hid (R.out.later hx3)
        have X2 := Lib.hid (X.out.trans hx3)
        clear S M R X
        have S := S2
        have M := M2
        have R := R2
        have X := X2
        clear S2 M2 R2 X2
        clear hx3
        obtain ⟨c0, c1, c2, c3, c4, c5⟩ := S.out.cells
        obtain ⟨d0, d1, d2, d3, d4, d5⟩ := M.out.cells
        go_wp2_with fail
        refine (minus_any d bb _).mono ?_
        rintro e v4 ⟨rfl, hx4⟩
        clear c0 c1 c2 c3 c4 c5 d0 d1 d2 d3 d4 d5
        have S2 := Lib.hid (S.out.later hx4)
        have M2 := Lib.hid (M.out.later hx4)
        have R2 := Lib.hid (R.out.later hx4)
        have X2 := Lib.hid (X.out.trans hx4)
        clear S M R X
        have S := S2
        have M := M2
        have R := R2
        have X := X2
        clear S2 M2 R2 X2
        clear hx4
        have S2 := Lib.hid (S.out.put (L d))
        have M2 := Lib.hid (M.out.put_other (Y := L d) (b := w.heap.size) (by omega))
        have R2 := Lib.hid (R.out.put_other (Y := L d) (c := w.heap.size) (by omega))
        have X2 := Lib.hid (X.out.put (Y := L d) (b := w.heap.size) (Nat.le_refl _))
        obtain ⟨c0, c1, c2, c3, c4, c5⟩ := S.out.cells
        have f0 := S.out.froz
        obtain ⟨e0, e1, e2, e3, e4, e5⟩ := S2.out.cells
        clear S M R X
        go_wp2_with fail
        clear c0 c1 c2 c3 c4 c5 f0 e0 e1 e2 e3 e4 e5
        refine (plus_any d d _).mono ?_
        rintro e v5 ⟨rfl, hx5⟩
        have S := Lib.hid (S2.out.later hx5)
        have M := Lib.hid (M2.out.later hx5)
        have R := Lib.hid (R2.out.later hx5)
        have X := Lib.hid (X2.out.trans hx5)
        clear S2 M2 R2 X2 hx5
        obtain ⟨c0, c1, c2, c3, c4, c5⟩ := S.out.cells
        have f0 := S.out.froz
        go_wp2
        go_roundw
        case rel => exact ⟨k + 1, by omega, by go_num, by rw [E.out]; go_num, by rw [E.out]; exact (S.out.put (L (d + d))).of_eq (fun j hj => by rw [L_mod _ hj, Nat.add_sub_cancel]), M.out.put_other (by omega), R.out.put_other (by omega), X.out.put (Nat.le_refl _)⟩
        case measure => simp [intOf]; omega
      · have hcm : ¬ (0 : Int) ≤ cmpN x bb := by unfold cmpN; rw [if_pos (by omega)]; omega
        have E := Lib.hid (E2.out hge)
        clear E1 E2 hge
        go_wp2_with fail
        refine (compare_any _ _ hx6.out lbb.out _).mono ?_
        rintro e v3 ⟨rfl, hx3⟩
        clear c0 c1 c2 c3 c4 c5 d0 d1 d2 d3 d4 d5
        have S2 := Lib.hid (S.out.later hx3)
        have M2 := Lib.hid (M.out.later hx3)
        have R2 := Lib.hid (R.out.later hx3)
        have X2 := Lib.hid (X.out.trans hx3)
        clear S M R X
        have S := S2
        have M := M2
        have R := R2
        have X := X2
        clear S2 M2 R2 X2
        clear hx3
        obtain ⟨c0, c1, c2, c3, c4, c5⟩ := S.out.cells
        go_wp2_with fail
        refine (plus_any x x _).mono ?_
        rintro e v5 ⟨rfl, hx5⟩
        clear c0 c1 c2 c3 c4 c5
        have S2 := Lib.hid (S.out.later hx5)
        have M2 := Lib.hid (M.out.later hx5)
        have R2 := Lib.hid (R.out.later hx5)
        have X2 := Lib.hid (X.out.trans hx5)
        clear S M R X
        have S := S2
        have M := M2
        have R := R2
        have X := X2
        clear S2 M2 R2 X2
        clear hx5
        obtain ⟨c0, c1, c2, c3, c4, c5⟩ := S.out.cells
        have f0 := S.out.froz
        go_wp2
        go_roundw
        case rel => exact ⟨k + 1, by omega, by go_num, by rw [E.out]; go_num, by rw [E.out]; exact (S.out.put (L (x + x))).of_eq (fun j hj => L_mod _ hj), M.out.put_other (by omega), R.out.put_other (by omega), X.out.put (Nat.le_refl _)⟩
        case measure => simp [intOf]; omega
    · obtain rfl : k = 32 := by omega
      have v1 := HV1.out
      have v3 := HV3.out
      have v2 := VV.out
      generalize hmx : rsteps bb 32 (0, aa) = mx at *
      clear hmx HV1 HV3 VV
      obtain ⟨m, x⟩ := mx
      simp only at S hx6 hm32 mw1 mw2 v1 v3 ⊢
      subst v1 v2
      have r0 := R.out.c0
      have r1 := R.out.c1
      have r2 := R.out.c2
      have r3 := R.out.c3
      have rf := R.out.froz
      by_cases hx0 : x = 0
      · subst hx0
        obtain rfl : V3 = false := by rw [v3]; simp
        clear v3
        have S0 : Six wr w.heap.size (fun _ => 0) := S.out.of_eq (fun j _ => (limb_zero _ _).symm)
        obtain ⟨c0, c1, c2, c3, c4, c5⟩ := S0.cells
        clear S0
        have EQ := eqNat 0 0 0 0 0 0 0 0 0 0 0 0
        simp only [beq_self_eq_true, Bool.and_self] at EQ
        go_wp2
        refine bodyPost_ret (v := .agg #[.bool false, .int .u64 V1, .int .i64 (-(s : Int) - 31), .bool false]) ?_ rfl ⟨rfl, ?_⟩
        · simp [results, Tryz.results110, go_sem, r0, r1, r2, r3]
        · repeat (first | with_reducible exact X.out | with_reducible refine Ext.setCell ?_ (by first | (simp; done) | (simp; omega)) _)
      · obtain rfl : V3 = true := by rw [v3]; simp [hx0]
        clear v3
        obtain ⟨c0, c1, c2, c3, c4, c5⟩ := S.out.cells
        have hne : ¬ (L x 0 = 0 ∧ L x 1 = 0 ∧ L x 2 = 0 ∧ L x 3 = 0 ∧ L x 4 = 0 ∧ L x 5 = 0) := fun ⟨h0, h1, h2, h3, h4, h5⟩ => hx0 (zero_of_places hx6.out (fun j hj => by
          have : j = 0 ∨ j = 1 ∨ j = 2 ∨ j = 3 ∨ j = 4 ∨ j = 5 := by omega
          rcases this with rfl | rfl | rfl | rfl | rfl | rfl <;> assumption))
        have hbl : ((L x 0 : Int) == 0 && ((L x 1 : Int) == 0 && ((L x 2 : Int) == 0 && ((L x 3 : Int) == 0 && ((L x 4 : Int) == 0 && (L x 5 : Int) == 0))))) = false := by
          rw [← Bool.not_eq_true]; intro h
          simp only [Bool.and_eq_true, beq_iff_eq] at h
          exact hne (by omega)
        have EQ : ∀ w : World, (Op.equalIn 10000 118 (.agg #[.int .u64 (L x 0), .int .u64 (L x 1), .int .u64 (L x 2), .int .u64 (L x 3), .int .u64 (L x 4), .int .u64 (L x 5)]) (.agg #[.int .u64 0, .int .u64 0, .int .u64 0, .int .u64 0, .int .u64 0, .int .u64 0])).run Tryz.prog w = .ok false w := fun w => by rw [eqNat, hbl]
        clear hne hbl
        go_wp2
        refine bodyPost_ret (v := .agg #[.bool false, .int .u64 V1, .int .i64 (-(s : Int) - 31), .bool true]) ?_ rfl ⟨rfl, ?_⟩
        · simp [results, Tryz.results110, go_sem, r0, r1, r2, r3]
        · repeat (first | with_reducible exact X.out | with_reducible refine Ext.setCell ?_ (by first | (simp; done) | (simp; omega)) _)

theorem ratio_any (a b : Nat) (ha : a < N6) (hb : b < N6) (w : World) :
    Calls Tryz.prog 110 #[.agg #[.int .u64 (L a 0), .int .u64 (L a 1), .int .u64 (L a 2), .int .u64 (L a 3), .int .u64 (L a 4), .int .u64 (L a 5)], .agg #[.int .u64 (L b 0), .int .u64 (L b 1), .int .u64 (L b 2), .int .u64 (L b 3), .int .u64 (L b 4), .int .u64 (L b 5)]] w fun e w' => e = .returned (.agg #[.bool false, .int .u64 ((ratioS a b).1 : Nat), .int .i64 (ratioE a b - 31), .bool (decide ((ratioS a b).2 ≠ 0))]) ∧ Ext w w' := by
  have na := nb_le384 ha
  have nb' := nb_le384 hb
  by_cases h : nb b < nb a
  · have e : ratioS a b = rsteps (shN b (nb a - nb b)) 32 (0, a) := by
      unfold ratioS ratioE; simp only; rw [if_pos (by omega), show ((nb a : Int) - (nb b : Int)).toNat = nb a - nb b by omega]
    rw [e]
    exact ratio_pos a b a _ _ _ _ _ rfl rfl rfl rfl (by unfold ratioE; omega) rfl ha hb h w
  · have e : ratioS a b = rsteps b 32 (0, shN a (nb b - nb a)) := by
      unfold ratioS ratioE; simp only; rw [if_neg (by omega), show (-((nb a : Int) - (nb b : Int))).toNat = nb b - nb a by omega]
    rw [e]
    exact ratio_neg a b _ b _ _ _ _ rfl rfl rfl rfl (by unfold ratioE; omega) rfl ha hb (by omega) w
theorem ratioS_man (a b : Nat) : (ratioS a b).1 < 4294967296 := by
  unfold ratioS; simp only; split <;> exact rsteps_man32 _ _ (Nat.le_refl _)
end Go.Proofs.YtogfiekbikechaaGreatDoor

namespace Go.Proofs.YtogfiekbikechaaGreatDoor
open Go.RowKit

theorem catch_panicking (b c : Nat) (x0 x1 x2 : Value) (u : TypeId) (pv : Value) (older : List PanicEntry) (w : World) (hbc : b ≠ c)
    (h0 : w.cell? ⟨b, 0, none⟩ = some x0) (h1 : w.cell? ⟨b, 1, none⟩ = some x1) (h2 : w.cell? ⟨c, 0, none⟩ = some x2)
    (z0 : w.frozen? ⟨b, 0, none⟩ = false) (z1 : w.frozen? ⟨b, 1, none⟩ = false) (z2 : w.frozen? ⟨c, 0, none⟩ = false) :
    CallsD Tryz.prog 99 #[.pointer (some ⟨b, 0, none⟩), .pointer (some ⟨c, 0, none⟩)] (.panicking ({ v := .iface u pv, recovered := false } :: older)) w fun e u' w' =>
      e = .returned (.tuple #[]) ∧ u' = .panicking ({ v := .iface u pv, recovered := true } :: older) ∧
        w' = ((w.setCell ⟨b, 0, none⟩ (.int .i64 0)).setCell ⟨b, 1, none⟩ (.int .i64 0)).setCell ⟨c, 0, none⟩ (.int .i64 3) := by
  have hcb : c ≠ b := fun e => hbc e.symm
  refine callsD_of_wpS Tryz.func99 rfl fun c₀ cs hu => ?_
  apply wpS_seq
  apply wpS_region
  simp [wpOpsS, go_sem, recoverD, hu, Tryz.ntmps99, Exit.thenS]
  refine wpS_cond (t := true) (by simp [Act.eval, Array.replicate]) ?_
  simp only [if_true]
  refine wpS_of_wp ?_
  have ht : (#[Value.pointer (some ⟨b, 0, none⟩), Value.pointer (some ⟨c, 0, none⟩)] ++ ((Array.replicate 3 undef).setIfInBounds 0 (Value.iface u pv)).setIfInBounds 1 (Value.bool true)) = #[Value.pointer (some ⟨b, 0, none⟩), Value.pointer (some ⟨c, 0, none⟩), .iface u pv, .bool true, undef] := rfl
  rw [ht]
  clear ht
  go_wp2
  simp [bodyPostS, results, Tryz.results99]

theorem catch_idle (p q : Addr) (w : World) :
    CallsD Tryz.prog 99 #[.pointer (some p), .pointer (some q)] .returning w fun e u' w' => e = .returned (.tuple #[]) ∧ u' = .returning ∧ w' = w := by
  refine callsD_of_wpS Tryz.func99 rfl fun c₀ cs hu => ?_
  apply wpS_seq
  apply wpS_region
  simp [wpOpsS, go_sem, recoverD, hu, Tryz.ntmps99, Exit.thenS]
  refine wpS_cond (t := false) (by simp [Act.eval, Array.replicate]) ?_
  simp only [Bool.false_eq_true, if_false]
  refine wpS_of_wp (wp_skip ?_)
  cases c₀
  simp_all [bodyPostS, results, Tryz.results99]

set_option maxHeartbeats 1000000 in
theorem guarded_ok (K : FuncId) (caps : Array Value) (m x : Int) (w : World) (hent : ∀ args w, (callFunc K args).run Tryz.prog w = .ok (.enter K args) w)
    (hop : ∀ u, Ext w u → Calls Tryz.prog K caps u fun e w' => e = .returned (.agg #[.int .i64 m, .int .i64 x]) ∧ Ext u w') :
    Calls Tryz.prog 70 #[.func (.func K) #[] caps] w fun e w' => e = .returned (.tuple #[.agg #[.int .i64 m, .int .i64 x], .int .i64 0]) ∧ Ext w w' := by
  have HOP := Lib.hid hop
  clear hop
  have hmf : ∀ (fn : Fn) (first cap : Array Value) (w : World), (Instr.makeFunc fn first cap).run Tryz.prog w = .ok (.func fn first cap) w := fun _ _ _ _ => rfl
  go_enter_defers Tryz.func70, Tryz.ntmps70
  go_wp2
  refine (HOP.out _ (((Ext.refl w).alloc _).alloc _)).mono ?_
  rintro e w1 ⟨rfl, hx⟩
  have s1 := hx.size
  simp at s1
  have c0 : w1.cell? ⟨w.heap.size, 0, none⟩ = some (.int .i64 0) := (hx.cell 0 (by simp; omega)).trans (by simp [go_sem])
  have c1 : w1.cell? ⟨w.heap.size, 1, none⟩ = some (.int .i64 0) := (hx.cell 1 (by simp; omega)).trans (by simp [go_sem])
  have c2 : w1.cell? ⟨w.heap.size + 1, 0, none⟩ = some (.int .i64 0) := (hx.cell 0 (by simp)).trans (by simp [go_sem])
  have f0 : w1.frozen? ⟨w.heap.size, 0, none⟩ = false := (hx.froz 0 (by simp; omega)).trans (by simp [go_sem])
  have f1 : w1.frozen? ⟨w.heap.size, 1, none⟩ = false := (hx.froz 1 (by simp; omega)).trans (by simp [go_sem])
  have f2 : w1.frozen? ⟨w.heap.size + 1, 0, none⟩ = false := (hx.froz 0 (by simp)).trans (by simp [go_sem])
  have X := Lib.hid ((((Ext.refl w).alloc (.cells #[.int .i64 0, .int .i64 0] 23)).alloc (.cells #[.int .i64 0] 24)).trans hx)
  clear hx s1
  go_wp2
  refine leaves_cons (f := 99) (args := #[.pointer (some ⟨w.heap.size, 0, none⟩), .pointer (some ⟨w.heap.size + 1, 0, none⟩)]) (by simp) (by simp [go_sem]) ?_
  refine (catch_idle _ _ _).mono ?_
  rintro e u' w'' ⟨rfl, rfl, rfl⟩
  have XX : Ext w (((w1.setCell ⟨w.heap.size, 0, none⟩ (.int .i64 m)).setCell ⟨w.heap.size, 1, none⟩ (.int .i64 x)).setCell ⟨w.heap.size + 1, 0, none⟩ (.int .i64 0)) :=
    ((X.out.setCell (Nat.le_refl _) _).setCell (Nat.le_refl _) _).setCell (by simp) _
  simp [Leaves, settle, results, Tryz.results70, go_sem, c0, c1, c2, XX]

set_option maxHeartbeats 1000000 in
theorem guarded_range (K : FuncId) (caps : Array Value) (w : World) (hent : ∀ args w, (callFunc K args).run Tryz.prog w = .ok (.enter K args) w)
    (hop : ∀ u, Ext w u → Calls Tryz.prog K caps u fun e w' => e = RangePanic ∧ Ext u w') :
    Calls Tryz.prog 70 #[.func (.func K) #[] caps] w fun e w' => e = .returned (.tuple #[.agg #[.int .i64 0, .int .i64 0], .int .i64 3]) ∧ Ext w w' := by
  have HOP := Lib.hid hop
  clear hop
  have hmf : ∀ (fn : Fn) (first cap : Array Value) (w : World), (Instr.makeFunc fn first cap).run Tryz.prog w = .ok (.func fn first cap) w := fun _ _ _ _ => rfl
  go_enter_defers Tryz.func70, Tryz.ntmps70
  go_wp2
  refine (HOP.out _ (((Ext.refl w).alloc _).alloc _)).mono ?_
  rintro e w1 ⟨rfl, hx⟩
  have s1 := hx.size
  simp at s1
  have c0 : w1.cell? ⟨w.heap.size, 0, none⟩ = some (.int .i64 0) := (hx.cell 0 (by simp; omega)).trans (by simp [go_sem])
  have c1 : w1.cell? ⟨w.heap.size, 1, none⟩ = some (.int .i64 0) := (hx.cell 1 (by simp; omega)).trans (by simp [go_sem])
  have c2 : w1.cell? ⟨w.heap.size + 1, 0, none⟩ = some (.int .i64 0) := (hx.cell 0 (by simp)).trans (by simp [go_sem])
  have f0 : w1.frozen? ⟨w.heap.size, 0, none⟩ = false := (hx.froz 0 (by simp; omega)).trans (by simp [go_sem])
  have f1 : w1.frozen? ⟨w.heap.size, 1, none⟩ = false := (hx.froz 1 (by simp; omega)).trans (by simp [go_sem])
  have f2 : w1.frozen? ⟨w.heap.size + 1, 0, none⟩ = false := (hx.froz 0 (by simp)).trans (by simp [go_sem])
  have X := Lib.hid ((((Ext.refl w).alloc (.cells #[.int .i64 0, .int .i64 0] 23)).alloc (.cells #[.int .i64 0] 24)).trans hx)
  clear hx s1
  show bodyPostD _ _ _ _ _ _
  refine leaves_cons (f := 99) (args := #[.pointer (some ⟨w.heap.size, 0, none⟩), .pointer (some ⟨w.heap.size + 1, 0, none⟩)]) (by simp) (by simp [go_sem]) ?_
  refine (catch_panicking w.heap.size (w.heap.size + 1) _ _ _ 24 _ [] w1 (by omega) c0 c1 c2 f0 f1 f2).mono ?_
  rintro e u' w'' ⟨rfl, rfl, rfl⟩
  have XX : Ext w (((w1.setCell ⟨w.heap.size, 0, none⟩ (.int .i64 0)).setCell ⟨w.heap.size, 1, none⟩ (.int .i64 0)).setCell ⟨w.heap.size + 1, 0, none⟩ (.int .i64 3)) :=
    ((X.out.setCell (Nat.le_refl _) _).setCell (Nat.le_refl _) _).setCell (by simp) _
  simp [Leaves, settle, results, Tryz.results70, go_sem, c0, c1, c2, XX]
set_option maxHeartbeats 1000000 in
theorem guarded1_ok (K : FuncId) (x0 : Value) (m x : Int) (w : World) (hent : ∀ args w, (callFunc K args).run Tryz.prog w = .ok (.enter K args) w)
    (hop : ∀ u, Ext w u → Calls Tryz.prog K #[x0] u fun e w' => e = .returned (.agg #[.int .i64 m, .int .i64 x]) ∧ Ext u w') :
    Calls Tryz.prog 70 #[.func (.func K) #[x0] #[]] w fun e w' => e = .returned (.tuple #[.agg #[.int .i64 m, .int .i64 x], .int .i64 0]) ∧ Ext w w' := by
  have HOP := Lib.hid hop
  clear hop
  have hmf : ∀ (fn : Fn) (first cap : Array Value) (w : World), (Instr.makeFunc fn first cap).run Tryz.prog w = .ok (.func fn first cap) w := fun _ _ _ _ => rfl
  go_enter_defers Tryz.func70, Tryz.ntmps70
  go_wp2
  refine (HOP.out _ (((Ext.refl w).alloc _).alloc _)).mono ?_
  rintro e w1 ⟨rfl, hx⟩
  have s1 := hx.size
  simp at s1
  have c0 : w1.cell? ⟨w.heap.size, 0, none⟩ = some (.int .i64 0) := (hx.cell 0 (by simp; omega)).trans (by simp [go_sem])
  have c1 : w1.cell? ⟨w.heap.size, 1, none⟩ = some (.int .i64 0) := (hx.cell 1 (by simp; omega)).trans (by simp [go_sem])
  have c2 : w1.cell? ⟨w.heap.size + 1, 0, none⟩ = some (.int .i64 0) := (hx.cell 0 (by simp)).trans (by simp [go_sem])
  have f0 : w1.frozen? ⟨w.heap.size, 0, none⟩ = false := (hx.froz 0 (by simp; omega)).trans (by simp [go_sem])
  have f1 : w1.frozen? ⟨w.heap.size, 1, none⟩ = false := (hx.froz 1 (by simp; omega)).trans (by simp [go_sem])
  have f2 : w1.frozen? ⟨w.heap.size + 1, 0, none⟩ = false := (hx.froz 0 (by simp)).trans (by simp [go_sem])
  have X := Lib.hid ((((Ext.refl w).alloc (.cells #[.int .i64 0, .int .i64 0] 23)).alloc (.cells #[.int .i64 0] 24)).trans hx)
  clear hx s1
  go_wp2
  refine leaves_cons (f := 99) (args := #[.pointer (some ⟨w.heap.size, 0, none⟩), .pointer (some ⟨w.heap.size + 1, 0, none⟩)]) (by simp) (by simp [go_sem]) ?_
  refine (catch_idle _ _ _).mono ?_
  rintro e u' w'' ⟨rfl, rfl, rfl⟩
  have XX : Ext w (((w1.setCell ⟨w.heap.size, 0, none⟩ (.int .i64 m)).setCell ⟨w.heap.size, 1, none⟩ (.int .i64 x)).setCell ⟨w.heap.size + 1, 0, none⟩ (.int .i64 0)) :=
    ((X.out.setCell (Nat.le_refl _) _).setCell (Nat.le_refl _) _).setCell (by simp) _
  simp [Leaves, settle, results, Tryz.results70, go_sem, c0, c1, c2, XX]

set_option maxHeartbeats 1000000 in
theorem guarded1_range (K : FuncId) (x0 : Value) (w : World) (hent : ∀ args w, (callFunc K args).run Tryz.prog w = .ok (.enter K args) w)
    (hop : ∀ u, Ext w u → Calls Tryz.prog K #[x0] u fun e w' => e = RangePanic ∧ Ext u w') :
    Calls Tryz.prog 70 #[.func (.func K) #[x0] #[]] w fun e w' => e = .returned (.tuple #[.agg #[.int .i64 0, .int .i64 0], .int .i64 3]) ∧ Ext w w' := by
  have HOP := Lib.hid hop
  clear hop
  have hmf : ∀ (fn : Fn) (first cap : Array Value) (w : World), (Instr.makeFunc fn first cap).run Tryz.prog w = .ok (.func fn first cap) w := fun _ _ _ _ => rfl
  go_enter_defers Tryz.func70, Tryz.ntmps70
  go_wp2
  refine (HOP.out _ (((Ext.refl w).alloc _).alloc _)).mono ?_
  rintro e w1 ⟨rfl, hx⟩
  have s1 := hx.size
  simp at s1
  have c0 : w1.cell? ⟨w.heap.size, 0, none⟩ = some (.int .i64 0) := (hx.cell 0 (by simp; omega)).trans (by simp [go_sem])
  have c1 : w1.cell? ⟨w.heap.size, 1, none⟩ = some (.int .i64 0) := (hx.cell 1 (by simp; omega)).trans (by simp [go_sem])
  have c2 : w1.cell? ⟨w.heap.size + 1, 0, none⟩ = some (.int .i64 0) := (hx.cell 0 (by simp)).trans (by simp [go_sem])
  have f0 : w1.frozen? ⟨w.heap.size, 0, none⟩ = false := (hx.froz 0 (by simp; omega)).trans (by simp [go_sem])
  have f1 : w1.frozen? ⟨w.heap.size, 1, none⟩ = false := (hx.froz 1 (by simp; omega)).trans (by simp [go_sem])
  have f2 : w1.frozen? ⟨w.heap.size + 1, 0, none⟩ = false := (hx.froz 0 (by simp)).trans (by simp [go_sem])
  have X := Lib.hid ((((Ext.refl w).alloc (.cells #[.int .i64 0, .int .i64 0] 23)).alloc (.cells #[.int .i64 0] 24)).trans hx)
  clear hx s1
  show bodyPostD _ _ _ _ _ _
  refine leaves_cons (f := 99) (args := #[.pointer (some ⟨w.heap.size, 0, none⟩), .pointer (some ⟨w.heap.size + 1, 0, none⟩)]) (by simp) (by simp [go_sem]) ?_
  refine (catch_panicking w.heap.size (w.heap.size + 1) _ _ _ 24 _ [] w1 (by omega) c0 c1 c2 f0 f1 f2).mono ?_
  rintro e u' w'' ⟨rfl, rfl, rfl⟩
  have XX : Ext w (((w1.setCell ⟨w.heap.size, 0, none⟩ (.int .i64 0)).setCell ⟨w.heap.size, 1, none⟩ (.int .i64 0)).setCell ⟨w.heap.size + 1, 0, none⟩ (.int .i64 3)) :=
    ((X.out.setCell (Nat.le_refl _) _).setCell (Nat.le_refl _) _).setCell (by simp) _
  simp [Leaves, settle, results, Tryz.results70, go_sem, c0, c1, c2, XX]
/-- What a rounding ends with: its value, or the panic. -/
def Ends (r : Option (Int × Int)) (e : Ending) : Prop :=
  match r with | some (m, x) => e = .returned (.agg #[.int .i64 m, .int .i64 x]) | none => e = RangePanic
theorem guarded_any (K : FuncId) (caps : Array Value) (r : Option (Int × Int)) (w : World) (hent : ∀ args w, (callFunc K args).run Tryz.prog w = .ok (.enter K args) w)
    (hop : ∀ u, Ext w u → Calls Tryz.prog K caps u fun e w' => Ends r e ∧ Ext u w') :
    Calls Tryz.prog 70 #[.func (.func K) #[] caps] w fun e w' => e = .returned (.tuple #[.agg #[.int .i64 (okV r).1, .int .i64 (okV r).2], .int .i64 (okE r)]) ∧ Ext w w' := by
  cases r with
  | none => exact guarded_range K caps w hent hop
  | some p => exact guarded_ok K caps p.1 p.2 w hent hop
theorem guarded1_any (K : FuncId) (x0 : Value) (r : Option (Int × Int)) (w : World) (hent : ∀ args w, (callFunc K args).run Tryz.prog w = .ok (.enter K args) w)
    (hop : ∀ u, Ext w u → Calls Tryz.prog K #[x0] u fun e w' => Ends r e ∧ Ext u w') :
    Calls Tryz.prog 70 #[.func (.func K) #[x0] #[]] w fun e w' => e = .returned (.tuple #[.agg #[.int .i64 (okV r).1, .int .i64 (okV r).2], .int .i64 (okE r)]) ∧ Ext w w' := by
  cases r with
  | none => exact guarded1_range K x0 w hent hop
  | some p => exact guarded1_ok K x0 p.1 p.2 w hent hop
theorem rounded_ends (neg more : Bool) (man : Nat) (exp : Int) (hm : man < 18446744073709551616) (he : -1000000 ≤ exp) (he2 : exp ≤ 1000000) (w : World) :
    Calls Tryz.prog 53 #[.agg #[.bool neg, .int .u64 man, .int .i64 exp, .bool more]] w fun e w' => Ends (roundV neg man exp more) e ∧ Ext w w' :=
  rounded_any neg more man exp hm he he2 w
end Go.Proofs.YtogfiekbikechaaGreatDoor

namespace Go.Proofs.YtogfiekbikechaaGreatDoor
open Go.RowKit

/-- The memory of numeral.rounded: the numeral, the result, two naturals, the digits' bytes. -/
structure NW (w wr : World) (neg : Bool) (d : ByteArray) (sc : Int) (A B : Nat) : Prop where
  n0 : wr.cell? ⟨w.heap.size, 0, none⟩ = some (.bool neg)
  n2 : wr.cell? ⟨w.heap.size, 2, none⟩ = some (.int .i64 sc)
  r0 : wr.cell? ⟨w.heap.size + 1, 0, none⟩ = some (.int .i64 0)
  r1 : wr.cell? ⟨w.heap.size + 1, 1, none⟩ = some (.int .i64 0)
  rf : ∀ j, wr.frozen? ⟨w.heap.size + 1, j, none⟩ = false
  a : Six wr (w.heap.size + 1 + 1) (L A)
  b : Six wr (w.heap.size + 1 + 1 + 1) (L B)
  by' : ∀ j, j < d.size → wr.cell? ⟨w.heap.size + 1 + 1 + 1 + 1, j, none⟩ = some (.int .u8 (d.data.toList.getD j 0).toNat)
  big : w.heap.size + 1 + 1 + 1 + 1 < wr.heap.size
  x : Ext w wr
theorem NW.later {w wr wz : World} {neg : Bool} {d : ByteArray} {sc : Int} {A B : Nat} (h : NW w wr neg d sc A B) (hx : Ext wr wz) : NW w wz neg d sc A B := by
  have hb := h.big
  exact ⟨(hx.cell _ (by omega)).trans h.n0, (hx.cell _ (by omega)).trans h.n2, (hx.cell _ (by omega)).trans h.r0, (hx.cell _ (by omega)).trans h.r1, fun j => (hx.froz _ (by omega)).trans (h.rf j),
    h.a.later hx, h.b.later hx, fun j hj => (hx.cell _ (by omega)).trans (h.by' j hj), by have := hx.size; omega, h.x.trans hx⟩
theorem NW.of_eq {w wr : World} {neg : Bool} {d : ByteArray} {sc : Int} {A B A' B' : Nat} (h : NW w wr neg d sc A B) (ha : ∀ j, j < 6 → L A' j = L A j) (hb : ∀ j, j < 6 → L B' j = L B j) : NW w wr neg d sc A' B' :=
  ⟨h.n0, h.n2, h.r0, h.r1, h.rf, h.a.of_eq ha, h.b.of_eq hb, h.by', h.big, h.x⟩
theorem cell_other {w : World} {b c k j : Nat} {v : Value} (hn : b ≠ c) : (w.setCell ⟨c, k, none⟩ v).cell? ⟨b, j, none⟩ = w.cell? ⟨b, j, none⟩ := by
  apply World.cell?_setCell_other; intro e2; simp at e2; try exact hn e2.1.symm
theorem cell_put {w : World} {b c j : Nat} {Y : Nat → Nat} (hn : b ≠ c) : ((((((w.setCell ⟨c, 0, none⟩ (.int .u64 (Y 0))).setCell ⟨c, 1, none⟩ (.int .u64 (Y 1))).setCell ⟨c, 2, none⟩ (.int .u64 (Y 2))).setCell ⟨c, 3, none⟩ (.int .u64 (Y 3))).setCell ⟨c, 4, none⟩ (.int .u64 (Y 4))).setCell ⟨c, 5, none⟩ (.int .u64 (Y 5))).cell? ⟨b, j, none⟩ = w.cell? ⟨b, j, none⟩ := by
  rw [cell_other hn, cell_other hn, cell_other hn, cell_other hn, cell_other hn, cell_other hn]
theorem froz_put {w : World} {b c j : Nat} {Y : Nat → Nat} : ((((((w.setCell ⟨c, 0, none⟩ (.int .u64 (Y 0))).setCell ⟨c, 1, none⟩ (.int .u64 (Y 1))).setCell ⟨c, 2, none⟩ (.int .u64 (Y 2))).setCell ⟨c, 3, none⟩ (.int .u64 (Y 3))).setCell ⟨c, 4, none⟩ (.int .u64 (Y 4))).setCell ⟨c, 5, none⟩ (.int .u64 (Y 5))).frozen? ⟨b, j, none⟩ = w.frozen? ⟨b, j, none⟩ := by
  simp only [World.frozen?_setCell]
theorem size_put {w : World} {c : Nat} {Y : Nat → Nat} : ((((((w.setCell ⟨c, 0, none⟩ (.int .u64 (Y 0))).setCell ⟨c, 1, none⟩ (.int .u64 (Y 1))).setCell ⟨c, 2, none⟩ (.int .u64 (Y 2))).setCell ⟨c, 3, none⟩ (.int .u64 (Y 3))).setCell ⟨c, 4, none⟩ (.int .u64 (Y 4))).setCell ⟨c, 5, none⟩ (.int .u64 (Y 5))).heap.size = w.heap.size := by simp
theorem NW.putA {w wr : World} {neg : Bool} {d : ByteArray} {sc : Int} {A B : Nat} (h : NW w wr neg d sc A B) (A' : Nat) {c : Nat} (hc : c = w.heap.size + 1 + 1) {Y : Nat → Nat} (hY : Y = L A') : NW w ((((((wr.setCell ⟨c, 0, none⟩ (.int .u64 (Y 0))).setCell ⟨c, 1, none⟩ (.int .u64 (Y 1))).setCell ⟨c, 2, none⟩ (.int .u64 (Y 2))).setCell ⟨c, 3, none⟩ (.int .u64 (Y 3))).setCell ⟨c, 4, none⟩ (.int .u64 (Y 4))).setCell ⟨c, 5, none⟩ (.int .u64 (Y 5))) neg d sc A' B := by
  subst hY
  subst hc
  exact ⟨(cell_put (by omega)).trans h.n0, (cell_put (by omega)).trans h.n2, (cell_put (by omega)).trans h.r0, (cell_put (by omega)).trans h.r1, fun j => froz_put.trans (h.rf j),
    h.a.put _, h.b.put_other (by omega), fun j hj => (cell_put (by omega)).trans (h.by' j hj), by rw [size_put]; exact h.big, h.x.put (by omega)⟩
theorem NW.putB {w wr : World} {neg : Bool} {d : ByteArray} {sc : Int} {A B : Nat} (h : NW w wr neg d sc A B) (B' : Nat) {c : Nat} (hc : c = w.heap.size + 1 + 1 + 1) {Y : Nat → Nat} (hY : Y = L B') : NW w ((((((wr.setCell ⟨c, 0, none⟩ (.int .u64 (Y 0))).setCell ⟨c, 1, none⟩ (.int .u64 (Y 1))).setCell ⟨c, 2, none⟩ (.int .u64 (Y 2))).setCell ⟨c, 3, none⟩ (.int .u64 (Y 3))).setCell ⟨c, 4, none⟩ (.int .u64 (Y 4))).setCell ⟨c, 5, none⟩ (.int .u64 (Y 5))) neg d sc A B' := by
  subst hY
  subst hc
  exact ⟨(cell_put (by omega)).trans h.n0, (cell_put (by omega)).trans h.n2, (cell_put (by omega)).trans h.r0, (cell_put (by omega)).trans h.r1, fun j => froz_put.trans (h.rf j),
    h.a.put_other (by omega), h.b.put _, fun j hj => (cell_put (by omega)).trans (h.by' j hj), by rw [size_put]; exact h.big, h.x.put (by omega)⟩

theorem decF_snoc (l : List UInt8) (c : UInt8) : decF (l ++ [c]) = decN (decF l) c := by unfold decF; rw [List.foldl_append]; rfl
theorem decN_place (n : Nat) (c : UInt8) {j : Nat} (h : j < 6) : L (n * 10 + (c.toNat - 48)) j = L (decN n c) j := by
  unfold decN
  rw [L_mod _ h, ← L_mod (n * 10 + (c.toNat - 48)) h, ← L_mod (n * 10 % M384 + (c.toNat - 48)) h, Nat.mod_add_mod]
theorem decF_lt (l : List UInt8) : decF l < N6 := by
  rcases List.eq_nil_or_concat l with h | ⟨l', c, h⟩
  · subst h; decide +kernel
  · subst h; rw [List.concat_eq_append, decF_snoc]; exact mod_N6 _
theorem decF_take (d : ByteArray) (k : Nat) (h : k < d.size) : decF (d.data.toList.take (k + 1)) = decN (decF (d.data.toList.take k)) (d.data.toList.getD k 0) := by
  have h' : k < d.data.toList.length := by simpa using h
  rw [List.take_succ_eq_append_getElem h', decF_snoc]
  congr 1
  rw [List.getD_eq_getElem?_getD, List.getElem?_eq_getElem h']; rfl
theorem L_small (v : Nat) (h : v < 18446744073709551616) : L v 0 = v ∧ L v 1 = 0 ∧ L v 2 = 0 ∧ L v 3 = 0 ∧ L v 4 = 0 ∧ L v 5 = 0 :=
  ⟨limb_small h, limb_small' h (by omega), limb_small' h (by omega), limb_small' h (by omega), limb_small' h (by omega), limb_small' h (by omega)⟩
end Go.Proofs.YtogfiekbikechaaGreatDoor

namespace Go.Proofs.YtogfiekbikechaaGreatDoor
open Go.RowKit

theorem plus_small (n v : Nat) (h : v < 18446744073709551616) (w : World) :
    Calls Tryz.prog 108 #[.agg #[.int .u64 (L n 0), .int .u64 (L n 1), .int .u64 (L n 2), .int .u64 (L n 3), .int .u64 (L n 4), .int .u64 (L n 5)], .agg #[.int .u64 v, .int .u64 0, .int .u64 0, .int .u64 0, .int .u64 0, .int .u64 0]] w fun e w' => e = .returned (.agg #[.int .u64 (L (n + v) 0), .int .u64 (L (n + v) 1), .int .u64 (L (n + v) 2), .int .u64 (L (n + v) 3), .int .u64 (L (n + v) 4), .int .u64 (L (n + v) 5)]) ∧ Ext w w' := by
  obtain ⟨h0, h1, h2, h3, h4, h5⟩ := L_small v h
  have := plus_any n v w
  rw [h0, h1, h2, h3, h4, h5] at this
  exact this
theorem timesPower_one (p : Nat) (hp : p ≤ 9223372036854775807) (w : World) (ht : PowR w) :
    Calls Tryz.prog 109 #[.agg #[.int .u64 (L 1 0), .int .u64 (L 1 1), .int .u64 (L 1 2), .int .u64 (L 1 3), .int .u64 (L 1 4), .int .u64 (L 1 5)], .int .i64 p] w fun e w' => e = .returned (.agg #[.int .u64 (L (tp p) 0), .int .u64 (L (tp p) 1), .int .u64 (L (tp p) 2), .int .u64 (L (tp p) 3), .int .u64 (L (tp p) 4), .int .u64 (L (tp p) 5)]) ∧ Ext w w' := by
  have := timesPower_any 1 p hp w ht
  rw [Nat.one_mul] at this
  exact this
theorem dig_u8 {c : UInt8} (h : isDg c = true) : (48 : Int) ≤ c.toNat ∧ (c.toNat : Int) ≤ 57 := by
  unfold isDg at h; simp at h; omega
def decA (A : Nat) (sc : Int) : Nat := if 0 ≤ sc then A * 10 ^ sc.toNat % M384 else A
def decB (sc : Int) : Nat := if 0 ≤ sc then 1 else 10 ^ (-sc).toNat % M384
theorem numV_eq (neg : Bool) (ds : List UInt8) (sc : Int) (h0 : ds ≠ []) (h1 : ¬ (ds.length : Int) + sc ≤ -46) (h2 : ¬ 53 < (ds.length : Int) + sc) :
    numV ⟨neg, ds, sc⟩ = roundV neg (ratioS (decA (decF ds) sc) (decB sc)).1 (ratioE (decA (decF ds) sc) (decB sc) - 31) (decide ((ratioS (decA (decF ds) sc) (decB sc)).2 ≠ 0)) := by
  unfold numV
  simp only
  rw [if_neg (by intro h; rcases h with h | h; exact h0 h; exact h1 h), if_neg h2]
  rfl
theorem ratioE_bd (a b : Nat) (ha : a < N6) (hb : b < N6) : -1000 ≤ ratioE a b - 31 ∧ ratioE a b - 31 ≤ 1000 := by
  have := nb_le384 ha
  have := nb_le384 hb
  unfold ratioE; omega

set_option maxRecDepth 100000 in
set_option maxHeartbeats 4000000 in
theorem num_main (neg : Bool) (d : ByteArray) (sc : Int) (r : Option (Int × Int)) (hr : r = numV ⟨neg, d.data.toList, sc⟩) (hd0 : 0 < d.size) (hd : d.size ≤ 60) (hdig : d.data.toList.all isDg = true) (h1 : -20000 ≤ sc) (h2 : sc ≤ 20000) (_n1 : ¬ d.toList = []) (n2 : d.toList.isEmpty = false)
   (hp1 : ¬ (d.size : Int) + sc ≤ -46) (hp2 : ¬ 53 < (d.size : Int) + sc) (w : World) (ht : PowR w) :
    Calls Tryz.prog 84 #[.agg #[.bool neg, .string d, .int .i64 sc]] w fun e w' => Ends r e ∧ Ext w w' := by
  have b1 : (d.size : Int) ≤ 60 := by omega
  have hlen : d.data.toList.length = d.size := by simp
  have HR := Lib.hid (hr.trans (numV_eq neg d.data.toList sc (by intro e; rw [e] at hlen; simp at hlen; omega) (by rw [hlen]; exact hp1) (by rw [hlen]; exact hp2)))
  have T := Lib.hid ht
  have HD := Lib.hid hdig
  clear hr ht hdig hlen
  have kc := fun (w : World) => Lib.run_convert_string_bytes (P := Tryz.prog) w 9 119 5 d Tryz.underlying9 Tryz.underlying119 Tryz.underlying5
  have LF := Lib.hid (decF_lt d.data.toList)
  go_enter Tryz.func84, Tryz.ntmps84
  go_wp2
  clear kc _n1 n2
  have N0 : NW w (Lib.bytesWorld ((((w.alloc (.cells #[.bool neg, .string d, .int .i64 sc] 90)).alloc (.cells #[.int .i64 0, .int .i64 0] 23)).alloc (.cells #[.int .u64 0, .int .u64 0, .int .u64 0, .int .u64 0, .int .u64 0, .int .u64 0] 118)).alloc (.cells #[.int .u64 1, .int .u64 0, .int .u64 0, .int .u64 0, .int .u64 0, .int .u64 0] 118)) 5 d) neg d sc (decF (d.data.toList.take 0)) 1 := by
    have e0 : decF (d.data.toList.take 0) = 0 := rfl
    rw [e0]
    have sA := six_new ((w.alloc (.cells #[.bool neg, .string d, .int .i64 sc] 90)).alloc (.cells #[.int .i64 0, .int .i64 0] 23)) (fun _ => 0) 118
    have sB := six_new (((w.alloc (.cells #[.bool neg, .string d, .int .i64 sc] 90)).alloc (.cells #[.int .i64 0, .int .i64 0] 23)).alloc (.cells #[.int .u64 0, .int .u64 0, .int .u64 0, .int .u64 0, .int .u64 0, .int .u64 0] 118)) (fun j => if j = 0 then 1 else 0) 118
    simp only [World.size_alloc] at sA sB
    have ex : Ext ((((w.alloc (.cells #[.bool neg, .string d, .int .i64 sc] 90)).alloc (.cells #[.int .i64 0, .int .i64 0] 23)).alloc (.cells #[.int .u64 0, .int .u64 0, .int .u64 0, .int .u64 0, .int .u64 0, .int .u64 0] 118)).alloc (.cells #[.int .u64 1, .int .u64 0, .int .u64 0, .int .u64 0, .int .u64 0, .int .u64 0] 118)) (Lib.bytesWorld ((((w.alloc (.cells #[.bool neg, .string d, .int .i64 sc] 90)).alloc (.cells #[.int .i64 0, .int .i64 0] 23)).alloc (.cells #[.int .u64 0, .int .u64 0, .int .u64 0, .int .u64 0, .int .u64 0, .int .u64 0] 118)).alloc (.cells #[.int .u64 1, .int .u64 0, .int .u64 0, .int .u64 0, .int .u64 0, .int .u64 0] 118)) 5 d) := ⟨⟨rfl, rfl, rfl, by rw [Lib.bytesWorld_size]; omega, fun k hk => Lib.bytesWorld_at_old _ _ _ k hk⟩⟩
    have sz := Lib.bytesWorld_size ((((w.alloc (.cells #[.bool neg, .string d, .int .i64 sc] 90)).alloc (.cells #[.int .i64 0, .int .i64 0] 23)).alloc (.cells #[.int .u64 0, .int .u64 0, .int .u64 0, .int .u64 0, .int .u64 0, .int .u64 0] 118)).alloc (.cells #[.int .u64 1, .int .u64 0, .int .u64 0, .int .u64 0, .int .u64 0, .int .u64 0] 118)) 5 d
    have bc := fun j hj => Lib.bytesWorld_cell ((((w.alloc (.cells #[.bool neg, .string d, .int .i64 sc] 90)).alloc (.cells #[.int .i64 0, .int .i64 0] 23)).alloc (.cells #[.int .u64 0, .int .u64 0, .int .u64 0, .int .u64 0, .int .u64 0, .int .u64 0] 118)).alloc (.cells #[.int .u64 1, .int .u64 0, .int .u64 0, .int .u64 0, .int .u64 0, .int .u64 0] 118)) 5 d j hj
    simp only [World.size_alloc] at sz bc
    obtain ⟨l0, l1, l2, l3, l4, l5⟩ := L_small 1 (by omega)
    refine ⟨(ex.cell 0 (by simp; try omega)).trans (by simp [go_sem]), (ex.cell 2 (by simp; try omega)).trans (by simp [go_sem]), (ex.cell 0 (by simp; try omega)).trans (by simp [go_sem]), (ex.cell 1 (by simp; try omega)).trans (by simp [go_sem]), fun j => (ex.froz j (by simp; try omega)).trans (by simp [go_sem]),
      ((sA.of_eq (fun j _ => limb_zero _ _)).later ((Ext.refl _).alloc _)).later ex, (sB.of_eq (fun j hj => ?_)).later ex, bc, by rw [sz]; omega, ((((Ext.refl w).alloc _).alloc _).alloc _).alloc _ |>.trans ex⟩
    have : j = 0 ∨ j = 1 ∨ j = 2 ∨ j = 3 ∨ j = 4 ∨ j = 5 := by omega
    rcases this with rfl | rfl | rfl | rfl | rfl | rfl <;> simp [l0, l1, l2, l3, l4, l5]
  generalize Lib.bytesWorld _ _ _ = w0 at *
  go_loopw [32] (fun i wr => ∃ k : Nat, k ≤ d.size ∧ i = .int .i64 k ∧ NW w wr neg d sc (decF (d.data.toList.take k)) 1) (fun i _ => d.size - (intOf i).toNat)
  case atStart => exact ⟨0, by omega, rfl, N0⟩
  case round =>
    obtain ⟨k, hk, rfl, hn⟩ := hrel
    clear N0
    by_cases hlt : k < d.size
    · have hc := hn.by' k hlt
      have hmem : d.data.toList.getD k 0 ∈ d.data.toList := by
        have h' : k < d.data.toList.length := by simpa using hlt
        rw [List.getD_eq_getElem?_getD, List.getElem?_eq_getElem h']; exact List.getElem_mem _
      obtain ⟨g1, g2⟩ := dig_u8 (List.all_eq_true.1 HD.out _ hmem)
      clear hmem
      have HF := Lib.hid (decF_take d k hlt)
      have N := Lib.hid hn
      clear hn
      generalize d.data.toList.getD k 0 = c at *
      have HP := Lib.hid (fun j (hj : j < 6) => decN_place (decF (d.data.toList.take k)) c hj)
      generalize decF (d.data.toList.take k) = A at *
      obtain ⟨v, hv⟩ : ∃ v : Nat, v = c.toNat - 48 := ⟨_, rfl⟩
      have HP2 : Hid (∀ j, j < 6 → L (A * 10 + v) j = L (decN A c) j) := by rw [hv]; exact HP.out
      have hvb : v < 10 := by omega
      have hcv : (c.toNat : Int) = (v : Int) + 48 := by omega
      rw [hcv] at hc
      clear hv HP hcv g1 g2
      have hu : IntKind.u8.wrap ((v : Int) + 48 - 48) = (v : Int) := by rw [show (v : Int) + 48 - 48 = v by omega]; exact IntWalk.u8_in _ ⟨by omega, by omega⟩
      obtain ⟨a0, a1, a2, a3, a4, a5⟩ := N.out.a.cells
      go_wp2_with fail
      refine (times_any A 10 (by omega) _).mono ?_
      rintro e v1 ⟨rfl, hx1⟩
      clear a0 a1 a2 a3 a4 a5 hc
      have N1 := Lib.hid (N.out.later hx1)
      clear N hx1
      go_wp2_with fail
      refine (plus_small (A * 10) v (by omega) _).mono ?_
      rintro e v2 ⟨rfl, hx2⟩
      have N := Lib.hid (N1.out.later hx2)
      clear N1 hx2
      obtain ⟨a0, a1, a2, a3, a4, a5⟩ := N.out.a.cells
      have f0 := N.out.a.froz
      go_wp2
      go_roundw
      case rel => exact ⟨k + 1, by omega, by go_num, by rw [HF.out]; exact (N.out.putA (A * 10 + v) rfl rfl).of_eq (fun j hj => (HP2.out j hj).symm) (fun _ _ => rfl)⟩
      case measure => simp [intOf]; omega
    · have hT : d.data.toList.take k = d.data.toList := List.take_of_length_le (by simp; omega)
      rw [hT] at hn
      clear hT
      have N := Lib.hid hn
      clear hn
      generalize decF d.data.toList = A at *
      by_cases hs : 0 ≤ sc
      · obtain ⟨p, rfl⟩ : ∃ p : Nat, sc = p := ⟨sc.toNat, by omega⟩
        have eA : Hid (∀ j, j < 6 → L (decA A p) j = L (A * tp p) j) := Lib.hid (fun j hj => by unfold decA; rw [if_pos hs, Int.toNat_natCast]; exact L_mod _ hj)
        have lA : Hid (decA A p < N6) := Lib.hid (by unfold decA; rw [if_pos hs]; exact mod_N6 _)
        have eB : Hid (decB p = 1) := Lib.hid (by unfold decB; rw [if_pos hs])
        have lB : Hid (decB p < N6) := Lib.hid (by rw [eB.out]; decide +kernel)
        generalize decA A p = AA at *
        generalize decB p = BB at *
        obtain ⟨a0, a1, a2, a3, a4, a5⟩ := N.out.a.cells
        have n2 := N.out.n2
        go_wp2_with fail
        refine (timesPower_any A p (by omega) _ (T.out.later N.out.x)).mono ?_
        rintro e v3 ⟨rfl, hx3⟩
        clear a0 a1 a2 a3 a4 a5 n2
        have N1 := Lib.hid (N.out.later hx3)
        clear N hx3
        obtain ⟨c0, c1, c2, c3, c4, c5⟩ := N1.out.a.cells
        have cf := N1.out.a.froz
        have N := Lib.hid ((N1.out.putA (A * tp p) rfl rfl).of_eq (A' := AA) (B' := BB) eA.out (fun j _ => by rw [eB.out]))
        obtain ⟨a0, a1, a2, a3, a4, a5⟩ := N.out.a.cells
        obtain ⟨b0, b1', b2, b3, b4, b5⟩ := N.out.b.cells
        clear N1
        go_wp2_with fail
        refine (ratio_any _ _ lA.out lB.out _).mono ?_
        rintro e v4 ⟨rfl, hx4⟩
        clear c0 c1 c2 c3 c4 c5 cf a0 a1 a2 a3 a4 a5 b0 b1' b2 b3 b4 b5
        have N := Lib.hid (N.out.later hx4)
        clear hx4
        have big := N.out.big
        have hE1 := ratioE_bd _ _ lA.out lB.out
        have hM1 := ratioS_man AA BB
        generalize (ratioS AA BB).1 = man at *
        generalize decide ((ratioS AA BB).2 ≠ 0) = more at *
        generalize ratioE AA BB - 31 = ex at *
        have n0 := N.out.n0
        have q0 : ∀ ob, (v4.alloc ob).cell? ⟨w.heap.size, 0, none⟩ = some (.bool neg) := fun ob => (((Ext.refl v4).alloc ob).cell 0 (by omega)).trans n0
        go_wp2_with fail
        refine (rounded_ends neg more man ex (by omega) (by omega) (by omega) _).mono ?_
        rintro e v5 ⟨hE, hx5⟩
        rw [← HR.out] at hE
        have N := Lib.hid (N.out.later (Ext.trans ((Ext.refl v4).alloc _) hx5))
        clear hx5 q0 n0
        cases r with
        | none =>
          obtain rfl : e = RangePanic := hE
          exact ⟨rfl, rfl, N.out.x⟩
        | some p =>
          obtain ⟨m, x⟩ := p
          obtain rfl : e = .returned (.agg #[.int .i64 m, .int .i64 x]) := hE
          have r0 := N.out.r0
          have r1 := N.out.r1
          have rf := N.out.rf
          go_wp2
          refine bodyPost_ret (v := .agg #[.int .i64 m, .int .i64 x]) ?_ rfl ⟨rfl, ?_⟩
          · simp [results, Tryz.results84, go_sem, r0, r1]
          · exact (N.out.x.setCell (by simp) _).setCell (by simp) _
      · obtain ⟨p, rfl⟩ : ∃ p : Nat, sc = -(p : Int) := ⟨(-sc).toNat, by omega⟩
        have eA : Hid (decA A (-(p : Int)) = A) := Lib.hid (by unfold decA; rw [if_neg hs])
        have lA : Hid (decA A (-(p : Int)) < N6) := Lib.hid (by rw [eA.out]; exact LF.out)
        have eB : Hid (∀ j, j < 6 → L (decB (-(p : Int))) j = L (tp p) j) := Lib.hid (fun j hj => by unfold decB; rw [if_neg hs, Int.neg_neg, Int.toNat_natCast]; exact L_mod _ hj)
        have lB : Hid (decB (-(p : Int)) < N6) := Lib.hid (by unfold decB; rw [if_neg hs]; exact mod_N6 _)
        generalize decA A (-(p : Int)) = AA at *
        generalize decB (-(p : Int)) = BB at *
        obtain ⟨a0, a1, a2, a3, a4, a5⟩ := N.out.b.cells
        have n2 := N.out.n2
        go_wp2_with fail
        refine (timesPower_one p (by omega) _ (T.out.later N.out.x)).mono ?_
        rintro e v3 ⟨rfl, hx3⟩
        clear a0 a1 a2 a3 a4 a5 n2
        have N1 := Lib.hid (N.out.later hx3)
        clear N hx3
        obtain ⟨c0, c1, c2, c3, c4, c5⟩ := N1.out.b.cells
        have cf := N1.out.b.froz
        have N := Lib.hid ((N1.out.putB (tp p) rfl rfl).of_eq (A' := AA) (B' := BB) (fun j _ => by rw [eA.out]) eB.out)
        obtain ⟨a0, a1, a2, a3, a4, a5⟩ := N.out.a.cells
        obtain ⟨b0, b1', b2, b3, b4, b5⟩ := N.out.b.cells
        clear N1
        go_wp2_with fail
        refine (ratio_any _ _ lA.out lB.out _).mono ?_
        rintro e v4 ⟨rfl, hx4⟩
        clear c0 c1 c2 c3 c4 c5 cf a0 a1 a2 a3 a4 a5 b0 b1' b2 b3 b4 b5
        have N := Lib.hid (N.out.later hx4)
        clear hx4
        have big := N.out.big
        have hE1 := ratioE_bd _ _ lA.out lB.out
        have hM1 := ratioS_man AA BB
        generalize (ratioS AA BB).1 = man at *
        generalize decide ((ratioS AA BB).2 ≠ 0) = more at *
        generalize ratioE AA BB - 31 = ex at *
        have n0 := N.out.n0
        have q0 : ∀ ob, (v4.alloc ob).cell? ⟨w.heap.size, 0, none⟩ = some (.bool neg) := fun ob => (((Ext.refl v4).alloc ob).cell 0 (by omega)).trans n0
        go_wp2_with fail
        refine (rounded_ends neg more man ex (by omega) (by omega) (by omega) _).mono ?_
        rintro e v5 ⟨hE, hx5⟩
        rw [← HR.out] at hE
        have N := Lib.hid (N.out.later (Ext.trans ((Ext.refl v4).alloc _) hx5))
        clear hx5 q0 n0
        cases r with
        | none =>
          obtain rfl : e = RangePanic := hE
          exact ⟨rfl, rfl, N.out.x⟩
        | some p =>
          obtain ⟨m, x⟩ := p
          obtain rfl : e = .returned (.agg #[.int .i64 m, .int .i64 x]) := hE
          have r0 := N.out.r0
          have r1 := N.out.r1
          have rf := N.out.rf
          go_wp2
          refine bodyPost_ret (v := .agg #[.int .i64 m, .int .i64 x]) ?_ rfl ⟨rfl, ?_⟩
          · simp [results, Tryz.results84, go_sem, r0, r1]
          · exact (N.out.x.setCell (by simp) _).setCell (by simp) _

end Go.Proofs.YtogfiekbikechaaGreatDoor
