/- Layer 2: the reference's reals by their indices. -/
/- Slices of integers that come in, and what is appended out of them. -/
/- Layer 2: the reference's natural numbers: digits to the base 32768 (no program here). -/
/- Layer 2: numbers of the rounds of the reference's subtraction and multiplication, and the digits of powers of 2 (no program here). -/
/- Layer 2: what the reference's search for the rounded index finds (no program here). -/
/- Layer 2: the reference's Small and Two. -/
/- Layer 2: the reference's comparison of natural numbers. -/
/- Layer 2: the reference's addition of natural numbers. -/
/- Layer 2: the reference's addition, walked. -/
/- Layer 2: the reference's cut and Two: rows of digits of the call's own. -/
/- Layer 2: the reference's multiplication of natural numbers. -/
/- Layer 2: the reference's subtraction of natural numbers. -/
/- Layer 2: the reference's powers of 2 and its half way marks. -/
/- Layer 2: the reference's half way marks and exact numbers. -/
import Derived.Test.YtogfiekbikechaaGreatDoorGr
import Derived.Test.YtogfiekbikechaaGreatDoorGm
import Derived.Laws.AppendOwn
import Derived.Laws.AppendOwnNone
import Derived.Test.YtogfiekbikechaaGreatDoorGa
import Derived.Lib.Hide
import Derived.Maps.AppendAt
import Derived.Deep.OwnRows
namespace Go.Proofs.YtogfiekbikechaaGreatDoor
open Go.RowKit

theorem rat_z (w : World) : Calls Tryz.prog 12 #[.int .i64 0] w fun e w' => e = .returned (.agg #[.int .i64 0, .int .i64 0]) ∧ Ext w w' := by
  go_enter Tryz.func12, Tryz.ntmps12
  go_wp2
  refine bodyPost_ret (v := .agg #[.int .i64 0, .int .i64 0]) ?_ rfl ⟨rfl, ?_⟩
  · simp [results, Tryz.results12, go_sem]
  · repeat (first | with_reducible exact Ext.refl _ | with_reducible refine Ext.alloc ?_ _ | with_reducible refine Ext.setCell ?_ (by simp) _)
theorem rat_lo (i : Int) (h0 : ¬ i < 0) (h1 : (i == 0) = false) (_h1' : ¬ i = 0) (h2 : i < 16777216) (w : World) : Calls Tryz.prog 12 #[.int .i64 i] w fun e w' => e = .returned (.agg #[.int .i64 i, .int .i64 (-150)]) ∧ Ext w w' := by
  go_enter Tryz.func12, Tryz.ntmps12
  go_wp2
  refine bodyPost_ret (v := .agg #[.int .i64 i, .int .i64 (-150)]) ?_ rfl ⟨rfl, ?_⟩
  · simp [results, Tryz.results12, go_sem]
  · repeat (first | with_reducible exact Ext.refl _ | with_reducible refine Ext.alloc ?_ _ | with_reducible refine Ext.setCell ?_ (by simp) _)
theorem rat_hi (i K M X : Int) (h0 : ¬ i < 0) (h2 : ¬ i < 16777216) (hs : Op.shift .shr .i64 i .u64 23 = pure (.int .i64 (K + 1))) (_k1 : IntKind.i64.wrap (K + 1 - 1) = K) (_k2 : wrap64 (K + 1 - 1) = K) (_k3 : wrap64 K = K) (k4 : IntKind.i64.wrap K = K)
    (ht : Op.shift .shl .i64 K .u64 23 = pure (.int .i64 (K * 8388608))) (m1 : IntKind.i64.wrap (i - K * 8388608) = M) (_m2 : wrap64 (i - K * 8388608) = M) (x1 : IntKind.i64.wrap (K - 150) = X) (_x2 : wrap64 (K - 150) = X) (w : World) :
    Calls Tryz.prog 12 #[.int .i64 i] w fun e w' => e = .returned (.agg #[.int .i64 M, .int .i64 X]) ∧ Ext w w' := by
  go_enter Tryz.func12, Tryz.ntmps12
  go_wp2
  refine bodyPost_ret (v := .agg #[.int .i64 M, .int .i64 X]) ?_ rfl ⟨rfl, ?_⟩
  · simp [results, Tryz.results12, go_sem]
  · repeat (first | with_reducible exact Ext.refl _ | with_reducible refine Ext.alloc ?_ _ | with_reducible refine Ext.setCell ?_ (by simp) _)
theorem rneg_any (m x M : Int) (h1 : IntKind.i64.wrap (-m) = M) (_h2 : wrap64 (-m) = M) (_h3 : IntKind.i64.wrap (0 - m) = M) (_h4 : wrap64 (0 - m) = M) (w : World) : Calls Tryz.prog 25 #[.agg #[.int .i64 m, .int .i64 x]] w fun e w' => e = .returned (.agg #[.int .i64 M, .int .i64 x]) ∧ Ext w w' := by
  go_enter Tryz.func25, Tryz.ntmps25
  go_wp2
  refine bodyPost_ret (v := .agg #[.int .i64 M, .int .i64 x]) ?_ rfl ⟨rfl, ?_⟩
  · simp [results, Tryz.results25, go_sem]
  · repeat (first | with_reducible exact Ext.refl _ | with_reducible refine Ext.alloc ?_ _ | with_reducible refine Ext.setCell ?_ (by simp) _)
set_option maxHeartbeats 1000000 in
theorem rat_neg (i N m x M : Int) (h0 : i < 0) (_n1 : IntKind.i64.wrap (0 - i) = N) (_n2 : wrap64 (0 - i) = N) (n3 : IntKind.i64.wrap (-i) = N) (_n4 : wrap64 (-i) = N) (A : Ret 12 #[.int .i64 N] (.agg #[.int .i64 m, .int .i64 x]))
    (_m1 : IntKind.i64.wrap (0 - m) = M) (_m2 : wrap64 (0 - m) = M) (m3 : IntKind.i64.wrap (-m) = M) (_m4 : wrap64 (-m) = M) (w : World) :
    Calls Tryz.prog 12 #[.int .i64 i] w fun e w' => e = .returned (.agg #[.int .i64 M, .int .i64 x]) ∧ Ext w w' := by
  go_enter Tryz.func12, Tryz.ntmps12
  go_wp2_with fail
  refine (A _).mono ?_
  rintro e w1 ⟨rfl, hx⟩
  have sz : w.heap.size + 1 ≤ w1.heap.size := by simpa using hx.size
  have c0 : w1.cell? ⟨w.heap.size, 0, none⟩ = some (.int .i64 0) := (hx.cell 0 (by simp)).trans (by simp [go_sem])
  have c1 : w1.cell? ⟨w.heap.size, 1, none⟩ = some (.int .i64 0) := (hx.cell 1 (by simp)).trans (by simp [go_sem])
  have f0 : ∀ j, w1.frozen? ⟨w.heap.size, j, none⟩ = false := fun j => (hx.froz j (by simp)).trans (by simp [go_sem])
  have X := Lib.hid (((Ext.refl w).alloc (.cells #[.int .i64 0, .int .i64 0] 23)).trans hx)
  clear hx
  have ne : w.heap.size ≠ w1.heap.size := by omega
  have d0 : ∀ ob, (w1.alloc ob).cell? ⟨w.heap.size, 0, none⟩ = some (.int .i64 0) := fun ob => (((Ext.refl w1).alloc ob).cell 0 (by omega)).trans c0
  have d1 : ∀ ob, (w1.alloc ob).cell? ⟨w.heap.size, 1, none⟩ = some (.int .i64 0) := fun ob => (((Ext.refl w1).alloc ob).cell 1 (by omega)).trans c1
  have g0 : ∀ ob j, (w1.alloc ob).frozen? ⟨w.heap.size, j, none⟩ = false := fun ob j => (((Ext.refl w1).alloc ob).froz j (by omega)).trans (f0 j)
  clear sz c0 c1 f0
  go_wp2
  refine bodyPost_ret (v := .agg #[.int .i64 M, .int .i64 x]) ?_ rfl ⟨rfl, ?_⟩
  · simp [results, Tryz.results12, go_sem, d0, d1]
  · repeat (first | with_reducible exact X.out | with_reducible refine Ext.alloc ?_ _ | with_reducible refine Ext.setCell ?_ (by first | (simp; done) | (have := X.out.size; omega)) _)
theorem atV_neg {i : Int} (h : i < 0) : atV i = (-(atV (-i)).1, (atV (-i)).2) := by
  unfold atV
  rw [if_pos h, if_neg (show ¬ -i < 0 by omega)]
theorem shl23 {K : Int} (h1 : -1000000 ≤ K) (h2 : K ≤ 1000000) : Op.shift .shl .i64 K .u64 23 = pure (.int .i64 (K * 8388608)) := by
  have e2 : IntKind.i64.wrap (K * 8388608) = K * 8388608 := IntWalk.i64_in _ ⟨by omega, by omega⟩
  have b : min 23 IntKind.i64.bits = 23 := by decide
  simp [Op.shift, b, e2]
theorem shr23 {i : Int} (_h1 : 0 ≤ i) (_h2 : i ≤ 9223372036854775807) : Op.shift .shr .i64 i .u64 23 = pure (.int .i64 (i / 8388608 - 1 + 1)) := by
  have b : min 23 IntKind.i64.bits = 23 := by decide
  simp [Op.shift, b]
  rw [Int.fdiv_eq_ediv_of_nonneg i (show (0 : Int) ≤ 8388608 by decide)]
/-- The reference's At. -/
theorem rat_any {i : Int} (b1 : -2533359616 ≤ i) (b2 : i ≤ 2533359616) : Ret 12 #[.int .i64 i] (.agg #[.int .i64 (atV i).1, .int .i64 (atV i).2]) := by
  have pos : ∀ j : Int, 0 ≤ j → j ≤ 2533359616 → Ret 12 #[.int .i64 j] (.agg #[.int .i64 (atV j).1, .int .i64 (atV j).2]) := fun j g1 g2 w => by
    unfold atV
    rw [if_neg (show ¬ j < 0 by omega)]
    unfold atP
    by_cases h0 : j = 0
    · rw [if_pos h0, h0]; exact rat_z w
    rw [if_neg h0]
    by_cases h1 : j < 16777216
    · have := rat_lo j (by omega) (by simpa using h0) h0 h1 w
      rw [show max (j / 8388608 - 1) 0 = 0 by omega]
      simpa using this
    · rw [show max (j / 8388608 - 1) 0 = j / 8388608 - 1 by omega]
      obtain ⟨K, hK⟩ : ∃ K, j / 8388608 - 1 = K := ⟨_, rfl⟩
      have := rat_hi j K (j - K * 8388608) (K - 150) (by omega) h1 (by rw [← hK]; exact shr23 g1 (by omega)) (IntWalk.i64_in _ ⟨by omega, by omega⟩ |>.trans (by omega)) (by unfold wrap64; omega) (by unfold wrap64; omega) (IntWalk.i64_in _ ⟨by omega, by omega⟩)
        (shl23 (by omega) (by omega)) (IntWalk.i64_in _ ⟨by omega, by omega⟩) (by unfold wrap64; omega) (IntWalk.i64_in _ ⟨by omega, by omega⟩) (by unfold wrap64; omega) w
      rw [hK, show (-150 : Int) + K = K - 150 by omega]
      exact this
  by_cases h : i < 0
  · intro w
    rw [atV_neg h]
    have P := pos (-i) (by omega) (by omega)
    have bd : -16777217 ≤ (atV (-i)).1 ∧ (atV (-i)).1 ≤ 16777217 := by
      unfold atV
      rw [if_neg (show ¬ -i < 0 by omega)]
      unfold atP
      split
      · simp
      · simp only; omega
    generalize atV (-i) = p at *
    exact rat_neg i (-i) p.1 p.2 (-p.1) h (by rw [Int.zero_sub]; exact IntWalk.i64_in _ ⟨by omega, by omega⟩) (by unfold wrap64; omega) (IntWalk.i64_in _ ⟨by omega, by omega⟩) (by unfold wrap64; omega) P
      (by rw [Int.zero_sub]; exact IntWalk.i64_in _ ⟨by omega, by omega⟩) (by unfold wrap64; omega) (IntWalk.i64_in _ ⟨by omega, by omega⟩) (by unfold wrap64; omega) w
  · exact pos i (by omega) b2
end Go.Proofs.YtogfiekbikechaaGreatDoor

namespace Go.Proofs.YtogfiekbikechaaGreatDoor
open Go.ChangeShapes Go.WideShapes Go.ChangeAt Go.RowKit

/-- A slice that reads as the integers 'l': nil, or at an address. -/
def IsInts2 (w : World) (v : Value) (l : List Int) : Prop :=
  (v = .slice none 0 0 ∧ l = []) ∨ ∃ ad cap, v = .slice (some ad) l.length cap ∧ l.length * 8 ≤ 140737488351232 ∧ (∀ j, j < l.length → w.cell? (ad.add j) = some (.int .i64 (l.getD j 0))) ∧ ∀ n, n ∈ l → (Lit.int .i64 n).wf = true

theorem IsInts2.one {w : World} {v : Value} {l : List Int} (h : IsInts2 w v l) : IsInts w v l := by
  rcases h with ⟨rfl, rfl⟩ | ⟨ad, cap, rfl, h1, h2, h3⟩
  · exact Or.inl ⟨_, _, rfl, rfl⟩
  · by_cases h0 : l.length = 0
    · obtain rfl := List.length_eq_zero_iff.1 h0
      exact Or.inl ⟨_, _, rfl, rfl⟩
    · obtain ⟨b, off, spot⟩ := ad
      have hspot : spot = none := by simpa [Addr.add] using World.cell?_spot (h2 0 (by omega))
      subst hspot
      have hb : b < w.heap.size := World.block_lt_of_cell? w _ (h2 0 (by omega))
      exact Or.inr ⟨b, off, cap, rfl, hb, h1, fun j hj => by rw [← add_plain]; exact h2 j hj, h3⟩
theorem IsInts2.ext {w w' : World} {v : Value} {l : List Int} (h : IsInts2 w v l) (hx : Ext w w') : IsInts2 w' v l := by
  rcases h with ⟨rfl, rfl⟩ | ⟨ad, cap, rfl, h1, h2, h3⟩
  · exact Or.inl ⟨rfl, rfl⟩
  · refine Or.inr ⟨ad, cap, rfl, h1, fun j hj => ?_, h3⟩
    exact (hx.bel.cell (p := ad.add j) (World.block_lt_of_cell? w _ (h2 j hj))).trans (h2 j hj)

theorem own_shape {w : World} {base : Nat} {e : TypeId} {v : Value} {n : Nat} {xs : List Value} (h : w.ownsRow base e 1 v n xs) : ∃ ao cap, v = .slice ao n cap ∧ (0 < n → ∃ g, ao = some ⟨g, 0, none⟩ ∧ base ≤ g ∧ g < w.heap.size ∧ ∀ j u, xs[j]? = some u → w.cell? ⟨g, j, none⟩ = some u) := by
  obtain ⟨hl, ⟨rfl, hn⟩ | ⟨g, cap, cur, rfl, hg, hh, h1, h2, h3, h4⟩⟩ := h
  · exact ⟨none, 0, by rw [hn], fun h => by omega⟩
  · refine ⟨_, cap, rfl, fun hp => ⟨g, rfl, hg, (Array.getElem?_eq_some_iff.1 hh).1, fun j u hj => ?_⟩⟩
    have hj' : j < xs.length := (List.getElem?_eq_some_iff.1 hj).1
    rw [← h4, List.getElem?_take_of_lt (by omega), Array.getElem?_toList] at hj
    simp only [World.cell?, hh]
    simpa using hj
theorem own_ints2 {w : World} {base : Nat} {e : TypeId} {v : Value} {n : Nat} {l : List Int} (h : w.ownsRow base e 1 v n (l.map (Value.int .i64))) (hb : n * 8 ≤ 140737488351232) (hw : ∀ z, z ∈ l → (Lit.int .i64 z).wf = true) : IsInts2 w v l := by
  have hl : l.length = n := by have := h.1; simpa using this
  obtain ⟨ao, cap, rfl, hs⟩ := own_shape h
  by_cases h0 : 0 < n
  · obtain ⟨g, rfl, _, _, hc⟩ := hs h0
    refine Or.inr ⟨_, cap, by rw [hl], by rw [hl]; exact hb, fun j hj => ?_, hw⟩
    rw [add_plain, Nat.zero_add]
    exact hc j _ (by rw [List.getElem?_map]; simp [List.getD, hj])
  · obtain rfl : n = 0 := by omega
    obtain rfl := List.length_eq_zero_iff.1 hl
    obtain ⟨_, ⟨e1, _⟩ | ⟨g, cap', cur, e1, _⟩⟩ := h
    · exact Or.inl ⟨e1, rfl⟩
    · rw [e1]; exact Or.inr ⟨_, cap', rfl, by simp, fun j hj => by simp at hj, hw⟩

section
variable {P : Program} {w : World} {ops : Array Oper} {rest : List Oper} {o : Oper} {a : Act} {Q : Exit → Act → World → Prop}
end
end Go.Proofs.YtogfiekbikechaaGreatDoor

namespace Go.Proofs.YtogfiekbikechaaGreatDoor
open Go.RowKit

/-- The digits of n from place 0 to L - 1. -/
def digL (n L : Nat) : List Int := (List.range L).map fun k => (limb 32768 n k : Int)
theorem digL_length (n L : Nat) : (digL n L).length = L := by unfold digL; simp
theorem digL_succ (n L : Nat) : digL n (L + 1) = digL n L ++ [(limb 32768 n L : Int)] := by unfold digL; rw [List.range_succ, List.map_append]; rfl
theorem digL_get {n L k : Nat} (h : k < L) : (digL n L).getD k 0 = (limb 32768 n k : Int) := by unfold digL; simp [List.getD, h]
theorem dig_lt (n k : Nat) : limb 32768 n k < 32768 := Nat.mod_lt _ (by omega)
/-- n has just L digits. -/
def Cn (n L : Nat) : Prop := n < 32768 ^ L ∧ (L = 0 ∨ 32768 ^ (L - 1) ≤ n)
/-- A slice that reads as a natural number. -/
def IsNat (w : World) (v : Value) (n : Nat) : Prop := ∃ L, Cn n L ∧ L ≤ 10000 ∧ IsInts2 w v (digL n L)
theorem IsNat.later {w w' : World} {v : Value} {n : Nat} (h : IsNat w v n) (hx : Ext w w') : IsNat w' v n := by
  obtain ⟨L, a, b, c⟩ := h
  exact ⟨L, a, b, c.ext hx⟩
theorem digL_wf {n L : Nat} : ∀ z, z ∈ digL n L → (Lit.int .i64 z).wf = true := by
  intro z hz
  unfold digL at hz
  obtain ⟨k, _, rfl⟩ := List.mem_map.1 hz
  have := dig_lt n k
  simp only [Lit.wf, Bool.and_eq_true, decide_eq_true_eq]
  have e : IntKind.i64.min = -9223372036854775808 := by decide
  have e2 : IntKind.i64.max = 9223372036854775807 := by decide
  omega
theorem div_pow_succ (n k : Nat) : n / 32768 ^ (k + 1) = n / 32768 ^ k / 32768 := by rw [Nat.pow_succ, Nat.div_div_eq_div_mul]
theorem own_nat {w : World} {base : Nat} {v : Value} {n L : Nat} {T : TypeId} (h : w.ownsRow base T 1 v L ((digL n L).map (Value.int .i64))) (hL : L ≤ 10000) (c : Cn n L) : IsNat w v n :=
  ⟨L, c, hL, own_ints2 h (by omega) digL_wf⟩
end Go.Proofs.YtogfiekbikechaaGreatDoor

namespace Go.Proofs.YtogfiekbikechaaGreatDoor
open Go.RowKit

/-- The numbers of a round of the subtraction of m from s + m. -/
theorem sub_way (s m k : Nat) (hk : k ≤ 10000) : ∃ (A B C S q : Nat) (T1 T2 : Int), limb 32768 (s + m) k = A ∧ limb 32768 m k = B ∧ carA 32768 s m k = C ∧ Hid (carA 32768 s m (k + 1) = q) ∧ Hid (digL s (k + 1) = digL s k ++ [(S : Int)]) ∧ (B = 0 → T2 = T1) ∧
    IntKind.i64.wrap ((A : Int) - C) = T1 ∧ wrap64 ((A : Int) - C) = T1 ∧ IntKind.i64.wrap (T1 - B) = T2 ∧ wrap64 (T1 - B) = T2 ∧
    (T2 < 0 → IntKind.i64.wrap (T2 + 32768) = (S : Int) ∧ wrap64 (T2 + 32768) = (S : Int) ∧ q = 1) ∧ (¬ T2 < 0 → T2 = (S : Int) ∧ q = 0) ∧ IntKind.i64.wrap (S : Int) = (S : Int) ∧ wrap64 (S : Int) = (S : Int) ∧
    IntKind.i64.wrap ((k : Int) + 1) = ((k + 1 : Nat) : Int) ∧ wrap64 ((k : Int) + 1) = ((k + 1 : Nat) : Int) := by
  have h1 := add_limb (b := 32768) (by omega) s m k
  have h2 := add_carry (b := 32768) (by omega) s m k
  have h3 := carA_le (b := 32768) (by omega) s m k
  have hd := Lib.hid (digL_succ s k)
  have l1 := dig_lt s k
  have l2 := dig_lt m k
  generalize e1 : limb 32768 (s + m) k = A at *
  generalize e2 : limb 32768 m k = B at *
  generalize e3 : carA 32768 s m k = C at *
  generalize e4 : carA 32768 s m (k + 1) = q at *
  generalize limb 32768 s k = S at *
  clear e1 e2 e3 e4
  refine ⟨A, B, C, S, q, (A : Int) - C, (A : Int) - C - B, rfl, rfl, rfl, Lib.hid rfl, hd, fun h => by omega, ?_, ?_, ?_, ?_, fun h => ⟨?_, ?_, ?_⟩, fun h => ⟨?_, ?_⟩, ?_, ?_, ?_, ?_⟩
  · exact IntWalk.i64_in _ ⟨by omega, by omega⟩
  · unfold wrap64; omega
  · exact IntWalk.i64_in _ ⟨by omega, by omega⟩
  · unfold wrap64; omega
  · rw [IntWalk.i64_in _ ⟨by omega, by omega⟩]; omega
  · unfold wrap64; omega
  · omega
  · omega
  · omega
  · exact IntWalk.i64_in _ ⟨by omega, by omega⟩
  · unfold wrap64; omega
  · rw [IntWalk.i64_in _ ⟨by omega, by omega⟩]; omega
  · unfold wrap64; omega

/-- Digits of n, the place p replaced by r. -/
def putD (n p r : Nat) : Nat := n % 32768 ^ p + r * 32768 ^ p + n / 32768 ^ (p + 1) * 32768 ^ (p + 1)
theorem pw (p : Nat) : 0 < 32768 ^ p := Nat.pow_pos (by omega)
theorem dig_split (n p : Nat) : n = n % 32768 ^ p + limb 32768 n p * 32768 ^ p + n / 32768 ^ (p + 1) * 32768 ^ (p + 1) := by
  have h1 := Nat.div_add_mod n (32768 ^ p)
  have h2 := Nat.div_add_mod (n / 32768 ^ p) 32768
  unfold limb
  rw [div_pow_succ, Nat.pow_succ]
  generalize n / 32768 ^ p = a at *
  generalize n % 32768 ^ p = c at *
  generalize 32768 ^ p = P at *
  generalize hx : a / 32768 = x at *
  generalize hy : a % 32768 = y at *
  rw [← h1, ← h2, Nat.mul_add, Nat.mul_comm x (P * 32768), Nat.mul_assoc P 32768 x, Nat.mul_comm y P]
  omega
theorem putD_add (n p r : Nat) : putD n p r + limb 32768 n p * 32768 ^ p = n + r * 32768 ^ p := by
  have h := dig_split n p
  unfold putD
  generalize n / 32768 ^ (p + 1) * 32768 ^ (p + 1) = a at *
  generalize n % 32768 ^ p = c at *
  generalize limb 32768 n p * 32768 ^ p = x at *
  generalize r * 32768 ^ p = y at *
  omega
theorem putD_low {n p r : Nat} {j : Nat} (h : j < p) : limb 32768 (putD n p r) j = limb 32768 n j := by
  have e : putD n p r = n % 32768 ^ p + 32768 ^ p * (r + n / 32768 ^ (p + 1) * 32768) := by
    unfold putD
    rw [Nat.pow_succ, Nat.mul_add, Nat.mul_comm r, Nat.add_assoc]
    congr 1; congr 1
    rw [Nat.mul_comm (n / (32768 ^ p * 32768)), Nat.mul_assoc, Nat.mul_comm 32768]
  rw [← limb_mod (b := 32768) (by omega) (putD n p r) h, e, Nat.add_mul_mod_self_left, Nat.mod_mod, limb_mod (b := 32768) (by omega) n h]
theorem putD_at {n p r : Nat} (hr : r < 32768) : limb 32768 (putD n p r) p = r ∧ putD n p r / 32768 ^ (p + 1) = n / 32768 ^ (p + 1) := by
  have hc : n % 32768 ^ p < 32768 ^ p := Nat.mod_lt _ (pw p)
  have e : putD n p r = n % 32768 ^ p + 32768 ^ p * (r + n / 32768 ^ (p + 1) * 32768) := by
    unfold putD
    rw [Nat.pow_succ, Nat.mul_add, Nat.mul_comm r, Nat.add_assoc]
    congr 1; congr 1
    rw [Nat.mul_comm (n / (32768 ^ p * 32768)), Nat.mul_assoc, Nat.mul_comm 32768]
  have d : putD n p r / 32768 ^ p = r + n / 32768 ^ (p + 1) * 32768 := by
    rw [e, Nat.add_mul_div_left _ _ (pw p), Nat.div_eq_of_lt hc, Nat.zero_add]
  constructor
  · unfold limb; rw [d]; omega
  · rw [div_pow_succ, d]; omega
theorem putD_high {n p r : Nat} (hr : r < 32768) {j : Nat} (h : p < j) : limb 32768 (putD n p r) j = limb 32768 n j := by
  obtain ⟨d, rfl⟩ : ∃ d, j = p + 1 + d := ⟨j - (p + 1), by omega⟩
  unfold limb
  rw [Nat.pow_add, ← Nat.div_div_eq_div_mul, ← Nat.div_div_eq_div_mul, (putD_at hr).2]
theorem putD_get {n p r : Nat} (hr : r < 32768) (j : Nat) : limb 32768 (putD n p r) j = if j = p then r else limb 32768 n j := by
  rcases Nat.lt_trichotomy j p with h | h | h
  · rw [putD_low h, if_neg (by omega)]
  · subst h; rw [if_pos rfl]; exact (putD_at hr).1
  · rw [putD_high hr h, if_neg (by omega)]

/-- What the loop of a digit's products holds: the number X in the row, the carry c, at the place k of the other number. -/
def Mrow (n m i k X c : Nat) : Prop := X + c * 32768 ^ (i + k) = (n % 32768 ^ i) * m + limb 32768 n i * (m % 32768 ^ k) * 32768 ^ i ∧ c < 32768
theorem mrow_start (n m i : Nat) : Mrow n m i 0 ((n % 32768 ^ i) * m) 0 := ⟨by simp [Nat.mod_one], by omega⟩
theorem mrow_end {n m i k X : Nat} (h : Mrow n m i k X 0) (hm : m < 32768 ^ k) : X = (n % 32768 ^ (i + 1)) * m := by
  have e := h.1
  rw [Nat.mod_eq_of_lt hm, Nat.zero_mul, Nat.add_zero] at e
  rw [e, mod_succ_at, Nat.add_mul]
  congr 1
  ac_rfl
theorem mrow_le {n m i k X c : Nat} (h : Mrow n m i k X c) : X + c * 32768 ^ (i + k) ≤ n * m := by
  rw [h.1]
  have h1 : limb 32768 n i * (m % 32768 ^ k) * 32768 ^ i ≤ limb 32768 n i * m * 32768 ^ i := Nat.mul_le_mul_right _ (Nat.mul_le_mul_left _ (Nat.mod_le _ _))
  have h2 : (n % 32768 ^ i) * m + limb 32768 n i * m * 32768 ^ i = (n % 32768 ^ (i + 1)) * m := by
    rw [mod_succ_at, Nat.add_mul]
    congr 1
    ac_rfl
  have h3 : (n % 32768 ^ (i + 1)) * m ≤ n * m := Nat.mul_le_mul_right _ (Nat.mod_le _ _)
  omega
theorem mrow_in {n m L K i k X c : Nat} (h : Mrow n m i k X c) (hn : n < 32768 ^ L) (hm : m < 32768 ^ K) (hi : i < L) (hk : k < K ∨ 0 < c) : i + k < L + K := by
  rcases hk with g | g
  · omega
  · rcases Nat.lt_or_ge (i + k) (L + K) with r | r
    · exact r
    · exfalso
      have h1 := mrow_le h
      have h2 : n * m < 32768 ^ (L + K) := by rw [Nat.pow_add]; exact Nat.mul_lt_mul'' hn hm
      have h3 : 32768 ^ (L + K) ≤ 32768 ^ (i + k) := Nat.pow_le_pow_right (by omega) r
      have h4 : 1 * 32768 ^ (i + k) ≤ c * 32768 ^ (i + k) := Nat.mul_le_mul_right _ g
      omega
/-- A round: T is the sum of carry, digit and product. -/
theorem mrow_step {n m i k X c T : Nat} (h : Mrow n m i k X c) (hT : T = c + limb 32768 X (i + k) + limb 32768 n i * limb 32768 m k) :
    Mrow n m i (k + 1) (putD X (i + k) (T % 32768)) (T / 32768) ∧ T < 2000000000 := by
  have l1 := dig_lt X (i + k)
  have l2 := dig_lt n i
  have l3 := dig_lt m k
  have hp : limb 32768 n i * limb 32768 m k ≤ 32767 * 32767 := Nat.mul_le_mul (by omega) (by omega)
  have hc := h.2
  refine ⟨⟨?_, by omega⟩, by omega⟩
  have e1 := putD_add X (i + k) (T % 32768)
  have e2 := h.1
  have e3 : limb 32768 n i * (m % 32768 ^ (k + 1)) * 32768 ^ i = limb 32768 n i * (m % 32768 ^ k) * 32768 ^ i + limb 32768 n i * limb 32768 m k * 32768 ^ (i + k) := by
    rw [mod_succ_at, Nat.pow_add]
    generalize m % 32768 ^ k = a
    generalize limb 32768 n i = b
    generalize limb 32768 m k = d
    generalize 32768 ^ k = P
    generalize 32768 ^ i = Q
    rw [Nat.mul_add, Nat.add_mul]
    congr 1
    ac_rfl
  have e4 : T / 32768 * 32768 ^ (i + (k + 1)) + T % 32768 * 32768 ^ (i + k) = T * 32768 ^ (i + k) := by
    have := Nat.div_add_mod T 32768
    rw [show i + (k + 1) = i + k + 1 by omega, Nat.pow_succ, ← Nat.mul_assoc, Nat.mul_right_comm, ← Nat.add_mul]
    congr 1
    omega
  have e5 : T * 32768 ^ (i + k) = c * 32768 ^ (i + k) + limb 32768 X (i + k) * 32768 ^ (i + k) + limb 32768 n i * limb 32768 m k * 32768 ^ (i + k) := by rw [hT, Nat.add_mul, Nat.add_mul]
  rw [e3]
  generalize limb 32768 n i * (m % 32768 ^ k) * 32768 ^ i = z1 at *
  generalize limb 32768 n i * limb 32768 m k * 32768 ^ (i + k) = z2 at *
  generalize T / 32768 * 32768 ^ (i + (k + 1)) = z3 at *
  generalize T % 32768 * 32768 ^ (i + k) = z4 at *
  generalize limb 32768 X (i + k) * 32768 ^ (i + k) = z5 at *
  generalize c * 32768 ^ (i + k) = z6 at *
  generalize T * 32768 ^ (i + k) = z7 at *
  generalize (n % 32768 ^ i) * m = z8 at *
  omega
theorem dig_zero {n L k : Nat} (hn : n < 32768 ^ L) (h : ¬ k < L) : limb 32768 n k = 0 := by
  have : 32768 ^ L ≤ 32768 ^ k := Nat.pow_le_pow_right (by omega) (by omega)
  unfold limb
  rw [Nat.div_eq_of_lt (by omega)]

/-- The numbers of a round of a digit's products. -/
theorem mul_way {n m i k X c p : Nat} (h : Mrow n m i k X c) (hp : p = i + k) (hk : k ≤ 30000) : ∃ A B D T1 AB T r q : Nat, limb 32768 n i = A ∧ limb 32768 m k = B ∧ limb 32768 X p = D ∧ Hid (Mrow n m i (k + 1) (putD X p r) q) ∧ Hid (r < 32768) ∧ (B = 0 → T1 = T) ∧
    IntKind.i64.wrap ((c : Int) + D) = T1 ∧ wrap64 ((c : Int) + D) = T1 ∧ IntKind.i64.wrap ((A : Int) * B) = AB ∧ wrap64 ((A : Int) * B) = AB ∧ IntKind.i64.wrap ((T1 : Int) + AB) = T ∧ wrap64 ((T1 : Int) + AB) = T ∧
    (T : Int).tmod 32768 = (r : Int) ∧ (T : Int).tdiv 32768 = (q : Int) ∧ wrap64 (q : Int) = (q : Int) ∧ IntKind.i64.wrap (q : Int) = (q : Int) ∧ wrap64 (r : Int) = (r : Int) ∧ IntKind.i64.wrap (r : Int) = (r : Int) ∧
    IntKind.i64.wrap ((k : Int) + 1) = ((k + 1 : Nat) : Int) ∧ wrap64 ((k : Int) + 1) = ((k + 1 : Nat) : Int) := by
  subst hp
  obtain ⟨hs, hT⟩ := mrow_step h rfl
  have hc := h.2
  have l1 := dig_lt X (i + k)
  have l2 := dig_lt n i
  have l3 := dig_lt m k
  clear h
  have HS := Lib.hid hs
  clear hs
  have hab : limb 32768 n i * limb 32768 m k ≤ 32767 * 32767 := Nat.mul_le_mul (by omega) (by omega)
  refine ⟨limb 32768 n i, limb 32768 m k, limb 32768 X (i + k), c + limb 32768 X (i + k), limb 32768 n i * limb 32768 m k, c + limb 32768 X (i + k) + limb 32768 n i * limb 32768 m k, _, _, rfl, rfl, rfl, HS, ?_⟩
  have hcast : ((limb 32768 n i : Nat) : Int) * ((limb 32768 m k : Nat) : Int) = ((limb 32768 n i * limb 32768 m k : Nat) : Int) := (Int.natCast_mul _ _).symm
  have hz : limb 32768 m k = 0 → limb 32768 n i * limb 32768 m k = 0 := fun e => by rw [e, Nat.mul_zero]
  rw [hcast]
  clear HS hcast
  generalize limb 32768 n i * limb 32768 m k = AB at *
  generalize limb 32768 n i = A at *
  generalize limb 32768 m k = B at *
  generalize limb 32768 X (i + k) = D at *
  refine ⟨Lib.hid (Nat.mod_lt _ (by omega)), fun e => by have := hz e; omega, ?_, ?_, ?_, ?_, ?_, ?_, ?_, ?_, ?_, ?_, ?_, ?_, ?_, ?_⟩
  · rw [IntWalk.i64_in _ ⟨by omega, by omega⟩]; omega
  · unfold wrap64; omega
  · exact IntWalk.i64_in _ ⟨by omega, by omega⟩
  · unfold wrap64; omega
  · rw [IntWalk.i64_in _ ⟨by omega, by omega⟩]; omega
  · unfold wrap64; omega
  · rw [Int.tmod_eq_emod_of_nonneg (by omega)]; omega
  · rw [Int.tdiv_eq_ediv_of_nonneg (by omega)]; omega
  · unfold wrap64; omega
  · exact IntWalk.i64_in _ ⟨by omega, by omega⟩
  · unfold wrap64; omega
  · exact IntWalk.i64_in _ ⟨by omega, by omega⟩
  · rw [IntWalk.i64_in _ ⟨by omega, by omega⟩]; omega
  · unfold wrap64; omega
/-- The place of a digit's product. -/
theorem place_way {i k p : Nat} (hp : p = i + k) (hb : p ≤ 40000) : IntKind.i64.wrap ((i : Int) + k) = p ∧ wrap64 ((i : Int) + k) = p := by
  subst hp
  exact ⟨by rw [IntWalk.i64_in _ ⟨by omega, by omega⟩]; omega, by unfold wrap64; omega⟩
theorem dig_hi {m K k : Nat} (hm : m < 32768 ^ K) (h : K ≤ k) : m < 32768 ^ k := Nat.lt_of_lt_of_le hm (Nat.pow_le_pow_right (by omega) h)

/-- The digits of a power of 2. -/
theorem two_split (n : Nat) : 2 ^ n = 2 ^ (n % 15) * 32768 ^ (n / 15) := by
  rw [show (32768 : Nat) = 2 ^ 15 by decide, ← Nat.pow_mul, ← Nat.pow_add]
  congr 1; omega
theorem two_small (n : Nat) : 2 ^ (n % 15) < 32768 := by
  rw [show (32768 : Nat) = 2 ^ 15 by decide]
  exact Nat.pow_lt_pow_right (by omega) (Nat.mod_lt _ (by omega))
theorem two_cn (n : Nat) : Cn (2 ^ n) (n / 15 + 1) := by
  have h1 := two_split n
  have h2 := two_small n
  have h3 : 1 ≤ 2 ^ (n % 15) := Nat.pow_pos (by omega)
  refine ⟨?_, .inr ?_⟩
  · rw [h1, Nat.pow_succ, Nat.mul_comm]; exact Nat.mul_lt_mul_of_pos_left h2 (pw _)
  · rw [h1, Nat.add_sub_cancel]
    exact Nat.le_mul_of_pos_left _ h3
theorem two_dig (n j : Nat) : limb 32768 (2 ^ n) j = if j = n / 15 then 2 ^ (n % 15) else 0 := by
  have h : 2 ^ n = putD 0 (n / 15) (2 ^ (n % 15)) := by unfold putD; simp [two_split n]
  rw [h, putD_get (two_small n), limb_zero]
end Go.Proofs.YtogfiekbikechaaGreatDoor

namespace Go.Proofs.YtogfiekbikechaaGreatDoor
open Go.RowKit

/-- n has at most 10000 digits. -/
def Fits (n : Nat) : Prop := ∀ P, 32768 ^ P ≤ n → P < 10000
theorem Fits.cn {n P : Nat} (h : Fits n) (c : Cn n P) : P ≤ 10000 := by
  rcases c.2 with e | e
  · omega
  · have := h _ e; omega
theorem fits_of {n k : Nat} (h : n < 2 ^ k) (hk : k ≤ 100000) : Fits n := by
  intro P hP
  have e : 32768 ^ P = 2 ^ (15 * P) := by rw [show (32768 : Nat) = 2 ^ 15 by decide, ← Nat.pow_mul]
  rw [e] at hP
  have := (Nat.pow_lt_pow_iff_right (a := 2) (by omega)).1 (Nat.lt_of_le_of_lt hP h)
  omega
theorem fits_mul {n m a b : Nat} (h : n < 2 ^ a) (k : m < 2 ^ b) (hk : a + b ≤ 100000) : n * m < 2 ^ (a + b) ∧ Fits (n * m) := by
  have e : n * m < 2 ^ (a + b) := by rw [Nat.pow_add]; exact Nat.mul_lt_mul'' h k
  exact ⟨e, fits_of e hk⟩
theorem fits_le {n m : Nat} (h : Fits n) (k : m ≤ n) : Fits m := fun P hP => h P (Nat.le_trans hP k)
theorem cmpI_ge {a b : Nat} : (cmpI a b ≥ 0) = (b ≤ a) := by
  unfold cmpI
  apply propext
  split
  · constructor <;> intro h <;> omega
  · split <;> constructor <;> intro h <;> omega
theorem cmpI_zero {a b : Nat} : cmpI a b = 0 ↔ a = b := by
  unfold cmpI
  split
  · constructor <;> intro h <;> omega
  · split
    · constructor <;> intro h <;> omega
    · constructor <;> intro h <;> omega

/-- The search's interval. -/
structure Seek (P D lo hi : Nat) : Prop where
  le : lo ≤ hi
  top : hi ≤ 2533359616
  below : ∀ r, r < lo → midN r * D < P
  above : hi = 2533359616 ∨ P ≤ midN hi * D
theorem Seek.start (P D : Nat) : Seek P D 0 2533359616 := ⟨by omega, by omega, fun r h => by omega, .inl rfl⟩
theorem Seek.low {P D lo hi : Nat} (h : Seek P D lo hi) (hl : lo < hi) (c : P ≤ midN ((lo + hi) / 2) * D) : Seek P D lo ((lo + hi) / 2) :=
  ⟨by omega, by have := h.top; omega, h.below, .inr c⟩
theorem Seek.high {P D lo hi : Nat} (h : Seek P D lo hi) (hl : lo < hi) (c : ¬ P ≤ midN ((lo + hi) / 2) * D) : Seek P D ((lo + hi) / 2 + 1) hi :=
  ⟨by omega, h.top, fun r hr => by
    have : midN r ≤ midN ((lo + hi) / 2) := mid_mono_le (by omega)
    have := Nat.mul_le_mul_right D this
    omega, h.above⟩
theorem seek_far {P D lo r : Nat} (h : Seek P D lo lo) (hn : Near P D r) (hlo : 2533359616 ≤ lo) : 2533359615 < r := by
  rcases Nat.lt_or_ge 2533359615 r with g | g
  · exact g
  · have := h.below r (by omega)
    rcases hn.1 with e | e
    · omega
    · omega
theorem seek_lt {P D lo r : Nat} (hD : 0 < D) (h : Seek P D lo lo) (hn : Near P D r) (hlo : lo ≤ 2533359615) (c : midN lo * D ≠ P ∨ lo % 2 = 0) : r = lo := by
  have hP : P ≤ midN lo * D := by
    rcases h.above with e | e
    · omega
    · exact e
  refine near_unique hD hn ⟨?_, ?_⟩
  · rcases c with e | e
    · left; omega
    · rcases Nat.eq_or_lt_of_le hP with g | g
      · exact .inr ⟨g, e⟩
      · exact .inl g
  · by_cases h0 : lo = 0
    · exact .inl h0
    · exact .inr (.inl (h.below _ (by omega)))
theorem seek_tie {P D lo r : Nat} (hD : 0 < D) (hn : Near P D r) (c : midN lo * D = P) (ho : lo % 2 = 1) : r = lo + 1 := by
  refine near_unique hD hn ⟨.inl ?_, .inr (.inr ⟨c.symm, by omega⟩)⟩
  have := mid_mono (r := lo) (s := lo + 1) (by omega)
  rw [← c]
  exact Nat.mul_lt_mul_of_pos_right this hD

/-- A real in memory, or none because of overflow. -/
def rndV : Option (Int × Int) → Value
  | some p => .agg #[.int .i64 p.1, .int .i64 p.2, .bool true]
  | none => .agg #[.int .i64 0, .int .i64 0, .bool false]
theorem resI_at {minus : Bool} {r : Nat} (h : r ≤ 2533359615) : resI minus r = some (atV (if minus then -(r : Int) else r)) := by
  unfold resI
  by_cases h0 : r = 0
  · subst h0
    rw [if_pos rfl]
    cases minus <;> rfl
  · rw [if_neg h0, if_neg (by omega)]
    unfold atV
    cases minus
    · simp only [Bool.false_eq_true, if_false]
      rw [if_neg (show ¬ (r : Int) < 0 by omega), atP_eq (by omega), if_neg (by omega)]
      simp
    · simp only [if_true]
      rw [if_pos (show -(r : Int) < 0 by omega), atP_eq (by omega), if_neg (by omega)]
      simp
theorem resI_far {minus : Bool} {r : Nat} (h : 2533359615 < r) : resI minus r = none := by
  unfold resI
  rw [if_neg (by omega), if_pos h]
theorem rnd_far {minus : Bool} {r : Nat} (h : 2533359615 < r) : rndV (resI minus r) = .agg #[.int .i64 0, .int .i64 0, .bool false] := by rw [resI_far h]; rfl
theorem rnd_at {minus : Bool} {r : Nat} (h : r ≤ 2533359615) : rndV (resI minus r) = .agg #[.int .i64 (atV (if minus then -(r : Int) else r)).1, .int .i64 (atV (if minus then -(r : Int) else r)).2, .bool true] := by rw [resI_at h]; rfl
/-- The magnitude's parts of an index. -/
theorem at_parts {r : Nat} (h : r ≤ 2533359615) : ∃ M X : Nat, (atV r) = ((M : Int), (X : Int) - 150 + if r = 0 then 150 else 0) ∧ M = mantN r ∧ X = expoN r ∧ M < 16777216 ∧ X ≤ 300 ∧ M % 2 = r % 2 := by
  refine ⟨mantN r, expoN r, ?_, rfl, rfl, mant_lt r, by unfold expoN; omega, mant_par r⟩
  unfold atV
  rw [if_neg (show ¬ (r : Int) < 0 by omega), atP_eq (by omega)]
  by_cases h0 : r = 0
  · subst h0; decide
  · rw [if_neg (by omega), if_neg h0]; simp
theorem mid_bd {r K : Nat} (h : r ≤ 2533359616) (hK : 327 ≤ K) : midN r < 2 ^ K := by
  have h1 := mant_lt r
  have h2 : expoN r ≤ 301 := by unfold expoN; omega
  have h3 : midN r < 2 ^ 26 * 2 ^ expoN r := Nat.mul_lt_mul_of_pos_right (by omega) (pow_pos2 _)
  rw [← Nat.pow_add] at h3
  have h4 : 26 + expoN r ≤ K := by omega
  exact Nat.lt_of_lt_of_le h3 (Nat.pow_le_pow_right (by omega) h4)
end Go.Proofs.YtogfiekbikechaaGreatDoor

namespace Go.Proofs.YtogfiekbikechaaGreatDoor
open Go.RowKit

theorem infoI : (Tryz.prog.info? 3).map (fun i => (i.zero, i.size, i.bytes)) = some (some (.int .i64 0), 1, 8) := by kernel_rfl
/-- A round of Small, outside of the walk. -/
theorem small_step {n k : Nat} (hn : n < 9223372036854775808) (hlt : 0 < n / 32768 ^ k) : ∃ q r q2 : Nat, n / 32768 ^ k = q ∧ n / 32768 ^ (k + 1) = q2 ∧ digL n (k + 1) = digL n k ++ [(r : Int)] ∧
    (q : Int).tmod 32768 = (r : Int) ∧ (q : Int).tdiv 32768 = (q2 : Int) ∧ wrap64 (q2 : Int) = (q2 : Int) ∧ IntKind.i64.wrap (q2 : Int) = (q2 : Int) ∧ wrap64 (r : Int) = (r : Int) ∧ IntKind.i64.wrap (r : Int) = (r : Int) ∧
    (q : Int) > 0 ∧ q2 < q ∧ k < 5 ∧ 32768 ^ k ≤ n := by
  have hs := div_pow_succ n k
  have hl : limb 32768 n k = n / 32768 ^ k % 32768 := rfl
  have hc2 : 32768 ^ k ≤ n := by
    rcases Nat.lt_or_ge n (32768 ^ k) with g | g
    · rw [Nat.div_eq_of_lt g] at hlt; omega
    · exact g
  have hk5 : k < 5 := by
    rcases Nat.lt_or_ge k 5 with g | g
    · exact g
    · have : 32768 ^ 5 ≤ 32768 ^ k := Nat.pow_le_pow_right (by omega) g
      omega
  have hq : n / 32768 ^ k ≤ n := Nat.div_le_self _ _
  have HD := digL_succ n k
  rw [hl] at HD
  generalize n / 32768 ^ k = q at *
  exact ⟨q, q % 32768, q / 32768, rfl, hs, HD, by rw [Int.tmod_eq_emod_of_nonneg (by omega)]; omega, by rw [Int.tdiv_eq_ediv_of_nonneg (by omega)]; omega, by unfold wrap64; omega, IntWalk.i64_in _ ⟨by omega, by omega⟩, by unfold wrap64; omega, IntWalk.i64_in _ ⟨by omega, by omega⟩,
    by omega, Nat.div_lt_self hlt (by omega), hk5, hc2⟩
theorem small_end {n k : Nat} (h : ¬ 0 < n / 32768 ^ k) (hc : k = 0 ∨ 32768 ^ (k - 1) ≤ n) : n / 32768 ^ k = 0 ∧ Cn n k := by
  refine ⟨Nat.eq_zero_of_not_pos h, ?_, hc⟩
  rcases Nat.lt_or_ge n (32768 ^ k) with g | g
  · exact g
  · exact absurd (Nat.div_pos g (Nat.pow_pos (by omega))) h
set_option maxRecDepth 100000 in
set_option maxHeartbeats 4000000 in
theorem small_nat (n : Nat) (hn : n < 9223372036854775808) (w : World) : Calls Tryz.prog 54 #[.int .i64 n] w fun e w' => ∃ v, e = .returned v ∧ IsNat w' v n ∧ Ext w w' := by
  go_enter Tryz.func54, Tryz.ntmps54
  go_wp2
  go_loopw [0, 3] (fun a b wr => ∃ k : Nat, k ≤ 5 ∧ (k = 0 ∨ 32768 ^ (k - 1) ≤ n) ∧ a = .int .i64 ((n / 32768 ^ k : Nat) : Int) ∧ wr.ownsRow w.heap.size 3 1 b k ((digL n k).map (Value.int .i64)) ∧ Below w.heap.size w wr) (fun a _ _ => (intOf a).toNat)
  case atStart => exact ⟨0, by omega, .inl rfl, by simp, ⟨by simp [digL], Or.inl ⟨rfl, rfl⟩⟩, Below.refl _ _⟩
  case round =>
    obtain ⟨k, hk, hc, rfl, hown, hB⟩ := hrel
    have hBz := hB.size
    by_cases hlt : 0 < n / 32768 ^ k
    · obtain ⟨q, r, q2, e1, e2, HD, t1, t2, t3, t4, t5, t6, hp, hV, hk5, hc2⟩ := small_step hn hlt
      rw [e1]
      have HD := Lib.hid HD
      have HS := Lib.hid e2
      have HC2 := Lib.hid hc2
      have HV := Lib.hid hV
      clear e1 e2 hc2 hV hc hk hlt
      obtain ⟨i0, hi, hy0, hy1, hy2⟩ := info_parts infoI
      go_wp2_with (at_builtin; refine wpList_append_own _ rfl (.tmp 6) (.tmp 9) 69 rfl w.heap.size 3 i0 (.int .i64 0) 1 8 Tryz.underlying69 hi hy0 hy1 hy2 rfl (by decide) _ k _ rfl (hown.alloc _) ⟨wr.heap.size, 0, none⟩ 1 1 [.int .i64 r] rfl rfl (cell_one_new _ _ _) (by simp [Value.oneCell']) (by unfold maxLen; omega) (by omega) (by simp; omega) ?_; intro v' w4 hown4 hg4 _)
      refine ⟨⟨k + 1, by omega, .inr HC2.out, by rw [HS.out], ?_, (hB.alloc hBz _).grown hg4 (by simp; omega) (fun j hj => (hown.lt j hj).1)⟩, by have := HV.out; simp [intOf]; omega⟩
      rw [HD.out, List.map_append]
      exact hown4
    · obtain ⟨e0, hC⟩ := small_end hlt hc
      have R := own_nat hown (by omega) hC
      rw [e0]
      clear hlt hc e0 hC
      go_wp2
      go_ret
      exact ⟨_, rfl, R, ⟨hB⟩⟩
end Go.Proofs.YtogfiekbikechaaGreatDoor

namespace Go.Proofs.YtogfiekbikechaaGreatDoor
open Go.ChangeShapes Go.WideShapes Go.ChangeAt Go.RowKit

/-- A slice's cells are the digits of n from place 0 to L - 1. -/
def At2 (w : World) (a : Option Addr) (L n : Nat) : Prop := ∀ j, j < L → ∃ b o, a = some ⟨b, o, none⟩ ∧ b < w.heap.size ∧ w.cell? ⟨b, o + j, none⟩ = some (.int .i64 (limb 32768 n j : Nat))
theorem IsNat.at2 {w : World} {v : Value} {n : Nat} (h : IsNat w v n) : ∃ a L c, v = .slice a L c ∧ Cn n L ∧ L ≤ 10000 ∧ At2 w a L n := by
  obtain ⟨L, hc, hL, hi⟩ := h
  rcases hi with ⟨rfl, h0⟩ | ⟨ad, cap, rfl, h1, h2, h3⟩
  · have : L = 0 := by have := congrArg List.length h0; rwa [digL_length] at this
    subst this
    exact ⟨none, 0, 0, rfl, hc, hL, fun j hj => by omega⟩
  · rw [digL_length] at h2 ⊢
    refine ⟨some ad, L, cap, rfl, hc, hL, fun j hj => ?_⟩
    obtain ⟨b, off, spot⟩ := ad
    have hspot : spot = none := by simpa [Addr.add] using World.cell?_spot (h2 0 (by omega))
    subst hspot
    have e := h2 j hj
    rw [digL_get hj, add_plain] at e
    exact ⟨b, off, rfl, World.block_lt_of_cell? w _ e, e⟩
theorem cn_lt {n m L K : Nat} (h : Cn n L) (k : Cn m K) (hl : L < K) : n < m := by
  have h1 : 32768 ^ L ≤ 32768 ^ (K - 1) := Nat.pow_le_pow_right (by omega) (by omega)
  rcases k.2 with e | e
  · omega
  · have := h.1; omega
/-- What two numbers of L digits compare to at the first place, from above, in which they differ. -/
theorem cmp_dig {n m L k : Nat} (hn : n < 32768 ^ L) (hm : m < 32768 ^ L) (hk : k < L) (he : ∀ j, k < j → j < L → limb 32768 n j = limb 32768 m j) :
    (limb 32768 n k < limb 32768 m k → cmpI n m = -1) ∧ (limb 32768 m k < limb 32768 n k → cmpI n m = 1) := by
  constructor
  · intro h
    have := limb_lt_at (b := 32768) (by omega) hn hm hk he h
    unfold cmpI; rw [if_pos (by omega)]
  · intro h
    have := limb_lt_at (b := 32768) (by omega) hm hn hk (fun j a b => (he j a b).symm) h
    unfold cmpI; rw [if_neg (by omega), if_pos (by omega)]
theorem cmp_all {n m L : Nat} (hn : n < 32768 ^ L) (hm : m < 32768 ^ L) (he : ∀ j, j < L → limb 32768 n j = limb 32768 m j) : cmpI n m = 0 := by
  have := limbs_inj (b := 32768) (by omega) L n m he
  rw [Nat.mod_eq_of_lt hn, Nat.mod_eq_of_lt hm] at this
  subst this
  unfold cmpI; rw [if_neg (by omega), if_neg (by omega)]
theorem dig_le (n k : Nat) : ((limb 32768 n k : Nat) : Int) ≤ 32767 := by have := dig_lt n k; omega
theorem ncmp_short (a b : Option Addr) (L K ca cb : Nat) (h : (L : Int) < (K : Int)) (w : World) : Calls Tryz.prog 66 #[.slice a L ca, .slice b K cb] w fun e w' => e = .returned (.int .i64 (-1)) ∧ Ext w w' := by
  have h' : L < K := by omega
  go_enter Tryz.func66, Tryz.ntmps66
  go_wp2
  go_ret
  exact ⟨rfl, Ext.refl _⟩
theorem ncmp_long (a b : Option Addr) (L K ca cb : Nat) (h : ¬ (L : Int) < (K : Int)) (h2 : (L : Int) > (K : Int)) (w : World) : Calls Tryz.prog 66 #[.slice a L ca, .slice b K cb] w fun e w' => e = .returned (.int .i64 1) ∧ Ext w w' := by
  have h' : ¬ L < K := by omega
  have h2' : K < L := by omega
  go_enter Tryz.func66, Tryz.ntmps66
  go_wp2
  go_ret
  exact ⟨rfl, Ext.refl _⟩
set_option maxRecDepth 100000 in
set_option maxHeartbeats 2000000 in
theorem ncmp_loop (n m L c1 c2 : Nat) (a b : Option Addr) (V : Int) (hV : V = cmpI n m) (hn : n < 32768 ^ L) (hm : m < 32768 ^ L) (w : World) (hL : L ≤ 10000) (h1 : At2 w a L n) (h2 : At2 w b L m) :
    Calls Tryz.prog 66 #[.slice a L c1, .slice b L c2] w fun e w' => e = .returned (.int .i64 V) ∧ Ext w w' := by
  have HV := Lib.hid hV
  have CD := Lib.hid (fun k hk he => @cmp_dig n m L k hn hm hk he)
  have CA := Lib.hid (fun he => @cmp_all n m L hn hm he)
  have H1 := Lib.hid h1
  have H2 := Lib.hid h2
  clear hV hn hm h1 h2
  have wL : IntKind.i64.wrap ((L : Int) - 1) = (L : Int) - 1 := IntWalk.i64_in _ ⟨by omega, by omega⟩
  have wL2 : wrap64 ((L : Int) - 1) = (L : Int) - 1 := by unfold wrap64; omega
  go_enter Tryz.func66, Tryz.ntmps66
  go_wp2
  go_loopw [5] (fun i wr => ∃ k : Nat, k ≤ L ∧ i = .int .i64 ((k : Int) - 1) ∧ (∀ j, k ≤ j → j < L → limb 32768 n j = limb 32768 m j) ∧ Ext w wr) (fun i _ => (intOf i + 1).toNat)
  case atStart => exact ⟨L, Nat.le_refl _, rfl, fun j g1 g2 => absurd g1 (Nat.not_le_of_gt g2), Ext.refl _⟩
  case round =>
    obtain ⟨k, hk, rfl, he, hx⟩ := hrel
    have HE := Lib.hid he
    clear he
    cases k with
    | zero =>
      obtain rfl : V = 0 := HV.out.trans (CA.out (fun j hj => HE.out j (Nat.zero_le _) hj))
      have X := Lib.hid hx
      clear hx
      go_wp2
      go_ret
      exact ⟨rfl, X.out⟩
    | succ q =>
      have eq1 : ((q + 1 : Nat) : Int) - 1 = q := by omega
      rw [eq1]
      clear eq1
      obtain ⟨b1, o1, rfl, l1, f1⟩ := H1.out q hk
      obtain ⟨b2, o2, rfl, l2, f2⟩ := H2.out q hk
      have hc1 := (hx.cell (o1 + q) l1).trans f1
      have hc2 := (hx.cell (o2 + q) l2).trans f2
      have F1 := Lib.hid f1
      have F2 := Lib.hid f2
      clear f1 f2
      have dd := CD.out q hk (fun j g1 g2 => HE.out j g1 g2)
      have i0 : (0 : Int) ≤ q := Int.natCast_nonneg _
      have i1 : (q : Int) < (L : Int) := Int.ofNat_lt.2 hk
      have i2 : q < L := hk
      have X := Lib.hid hx
      have H3 := HE
      clear hx HE
      generalize hA : limb 32768 n q = A at *
      generalize hB : limb 32768 m q = B at *
      rcases Nat.lt_trichotomy A B with hd | hd | hd
      · obtain rfl : V = -1 := HV.out.trans (dd.1 hd)
        have hd' : (A : Int) < (B : Int) := Int.ofNat_lt.2 hd
        clear dd hA hB
        go_wp2
        go_region
        all_goals
          go_wp2
          go_ret
          exact ⟨rfl, by repeat (first | with_reducible exact X.out | with_reducible refine Ext.drewN ?_ _ | with_reducible refine Ext.drew ?_)⟩
      · subst hd
        have HA := Lib.hid hA
        have HB := Lib.hid hB
        have HAB := Lib.hid (hA.trans hB.symm)
        have hd3 : ¬ A < A := Nat.lt_irrefl A
        have wq : IntKind.i64.wrap ((q : Int) - 1) = (q : Int) - 1 := IntWalk.i64_in _ ⟨by omega, by omega⟩
        have wq2 : wrap64 ((q : Int) - 1) = (q : Int) - 1 := by unfold wrap64; omega
        clear dd hA hB
        go_wp2
        go_region
        all_goals
          go_wp2
          have X2 := Lib.hid (X.out.drew)
          have g1 := (X2.out.cell (o1 + q) l1).trans F1.out
          have g2 := (X2.out.cell (o2 + q) l2).trans F2.out
          try rw [HA.out] at g1
          try rw [HB.out] at g2
          clear hc1 hc2 X
          generalize wr.drew = w2 at *
          go_wp2
          go_region
          all_goals
            go_wp2
            go_roundw
            case rel => exact ⟨q, Nat.le_of_lt i2, rfl, fun j a1 a2 => by
              rcases Nat.eq_or_lt_of_le a1 with e | e
              · rw [← e]; exact HAB.out
              · exact H3.out j e a2, X2.out.drew⟩
            case measure => simp [intOf]; try omega
      · obtain rfl : V = 1 := HV.out.trans (dd.2 hd)
        have hd' : ¬ (A : Int) < (B : Int) := by omega
        have hd2 : (A : Int) > (B : Int) := Int.ofNat_lt.2 hd
        have hd3 : ¬ A < B := by omega
        have HA := Lib.hid hA
        have HB := Lib.hid hB
        clear dd hA hB
        go_wp2
        go_region
        all_goals
          go_wp2
          have X2 := Lib.hid (X.out.drew)
          have g1 := (X2.out.cell (o1 + q) l1).trans F1.out
          have g2 := (X2.out.cell (o2 + q) l2).trans F2.out
          try rw [HA.out] at g1
          try rw [HB.out] at g2
          clear hc1 hc2 X
          generalize wr.drew = w2 at *
          go_wp2
          go_region
          all_goals
            go_wp2
            go_ret
            exact ⟨rfl, by repeat (first | with_reducible exact X2.out | with_reducible refine Ext.drewN ?_ _ | with_reducible refine Ext.drew ?_)⟩
theorem ncmp_any {n m : Nat} {v u : Value} {w : World} (h : IsNat w v n) (k : IsNat w u m) : Calls Tryz.prog 66 #[v, u] w fun e w' => e = .returned (.int .i64 (cmpI n m)) ∧ Ext w w' := by
  obtain ⟨a, L, c, rfl, h1, h2, h3⟩ := h.at2
  obtain ⟨b, K, d, rfl, k1, k2, k3⟩ := k.at2
  by_cases g : L < K
  · have e : cmpI n m = -1 := by have := cn_lt h1 k1 g; unfold cmpI; rw [if_pos (by omega)]
    rw [e]
    exact ncmp_short a b L K c d (by omega) w
  · by_cases g2 : K < L
    · have e : cmpI n m = 1 := by have := cn_lt k1 h1 g2; unfold cmpI; rw [if_neg (by omega), if_pos (by omega)]
      rw [e]
      exact ncmp_long a b L K c d (by omega) (by omega) w
    · obtain rfl : L = K := by omega
      exact ncmp_loop n m L c d a b _ rfl h1.1 k1.1 w h2 h3 k3
end Go.Proofs.YtogfiekbikechaaGreatDoor

namespace Go.Proofs.YtogfiekbikechaaGreatDoor
open Go.RowKit

theorem add_round (n m k : Nat) : ∃ A B C r q : Nat, limb 32768 n k = A ∧ limb 32768 m k = B ∧ carA 32768 n m k = C ∧ carA 32768 n m (k + 1) = q ∧ digL (n + m) (k + 1) = digL (n + m) k ++ [(r : Int)] ∧ A < 32768 ∧ B < 32768 ∧ C ≤ 1 ∧
    q = (C + A + B) / 32768 ∧ r = (C + A + B) % 32768 := by
  have h1 := add_limb (b := 32768) (by omega) n m k
  have h2 := add_carry (b := 32768) (by omega) n m k
  have h3 := carA_le (b := 32768) (by omega) n m k
  refine ⟨_, _, _, _, _, rfl, rfl, rfl, rfl, digL_succ _ _, dig_lt _ _, dig_lt _ _, h3, ?_, ?_⟩
  · rw [h2]; congr 1; omega
  · rw [h1]; congr 1; omega
/-- What the round's last part asks of the sum T of a carry and digits. -/
def Lst (T r q : Nat) : Prop := (T : Int).tmod 32768 = (r : Int) ∧ (T : Int).tdiv 32768 = (q : Int) ∧ wrap64 (q : Int) = (q : Int) ∧ IntKind.i64.wrap (q : Int) = (q : Int) ∧ wrap64 (r : Int) = (r : Int) ∧ IntKind.i64.wrap (r : Int) = (r : Int)
theorem lst {T r q : Nat} (h : T < 70000) (hq : q = T / 32768) (hr : r = T % 32768) : Lst T r q := by
  subst hq hr
  exact ⟨by rw [Int.tmod_eq_emod_of_nonneg (by omega)]; omega, by rw [Int.tdiv_eq_ediv_of_nonneg (by omega)]; omega, by unfold wrap64; omega, IntWalk.i64_in _ ⟨by omega, by omega⟩, by unfold wrap64; omega, IntWalk.i64_in _ ⟨by omega, by omega⟩⟩
theorem add_one {C A T : Nat} (hC : C ≤ 40000) (hA : A < 32768) (hT : T = C + A) : IntKind.i64.wrap ((C : Int) + A) = T ∧ wrap64 ((C : Int) + A) = T := by
  subst hT
  exact ⟨by rw [IntWalk.i64_in _ ⟨by omega, by omega⟩]; omega, by unfold wrap64; omega⟩
theorem step_one {k : Nat} (hk : k ≤ 20000) : IntKind.i64.wrap ((k : Int) + 1) = ((k + 1 : Nat) : Int) ∧ wrap64 ((k : Int) + 1) = ((k + 1 : Nat) : Int) := ⟨by rw [IntWalk.i64_in _ ⟨by omega, by omega⟩]; omega, by unfold wrap64; omega⟩
theorem add_way (n m k : Nat) (hk : k ≤ 10000) : ∃ DA DB C r q T1 T2 : Nat, limb 32768 n k = DA ∧ limb 32768 m k = DB ∧ carA 32768 n m k = C ∧ Hid (carA 32768 n m (k + 1) = q) ∧ Hid (digL (n + m) (k + 1) = digL (n + m) k ++ [(r : Int)]) ∧ (DA = 0 → C = T1) ∧ (DB = 0 → T1 = T2) ∧
    IntKind.i64.wrap ((C : Int) + DA) = T1 ∧ wrap64 ((C : Int) + DA) = T1 ∧ IntKind.i64.wrap ((T1 : Int) + DB) = T2 ∧ wrap64 ((T1 : Int) + DB) = T2 ∧ Lst T2 r q ∧ IntKind.i64.wrap ((k : Int) + 1) = ((k + 1 : Nat) : Int) ∧ wrap64 ((k : Int) + 1) = ((k + 1 : Nat) : Int) := by
  obtain ⟨A, B, C, r, q, e1, e2, e3, e4, e5, bA, bB, bC, hq, hr⟩ := add_round n m k
  have E := Lib.hid (And.intro e1 (And.intro e2 e3))
  have e4 := Lib.hid e4
  have e5 := Lib.hid e5
  clear e1 e2 e3
  have s4 : Lst (C + A + B) r q := lst (by omega) hq hr
  have s5 : A = 0 → C = C + A := fun h => by omega
  have s6 : B = 0 → C + A = C + A + B := fun h => by omega
  have q1 : C ≤ 40000 := by omega
  have q2 : C + A ≤ 40000 := by omega
  have q3 : k ≤ 20000 := by omega
  have s1 := @add_one C A (C + A) q1 bA rfl
  have s2 := @add_one (C + A) B (C + A + B) q2 bB rfl
  have s3 := @step_one k q3
  refine ⟨A, B, C, r, q, C + A, C + A + B, ?_⟩
  exact And.intro E.out.1 (And.intro E.out.2.1 (And.intro E.out.2.2 (And.intro e4 (And.intro e5 (And.intro s5 (And.intro s6 (And.intro s1.1 (And.intro s1.2 (And.intro s2.1 (And.intro s2.2 (And.intro s4 s3)))))))))))
theorem add_end {n m L K M : Nat} (h1 : Cn n L) (h2 : Cn m K) (hM : M = max L K) : (carA 32768 n m M = 0 ∧ Cn (n + m) M) ∨ (carA 32768 n m M = 1 ∧ Cn (n + m) (M + 1) ∧ digL (n + m) (M + 1) = digL (n + m) M ++ [((1 : Nat) : Int)]) := by
  have e1 : 32768 ^ L ≤ 32768 ^ M := Nat.pow_le_pow_right (by omega) (by omega)
  have e2 : 32768 ^ K ≤ 32768 ^ M := Nat.pow_le_pow_right (by omega) (by omega)
  have hn : n < 32768 ^ M := Nat.lt_of_lt_of_le h1.1 e1
  have hm : m < 32768 ^ M := Nat.lt_of_lt_of_le h2.1 e2
  have hs : 32768 ^ (M + 1) = 32768 ^ M * 32768 := Nat.pow_succ ..
  have hp : 0 < 32768 ^ M := Nat.pow_pos (by omega)
  have hc : carA 32768 n m M = (n + m) / 32768 ^ M := by unfold carA; rw [Nat.mod_eq_of_lt hn, Nat.mod_eq_of_lt hm]
  have hlow : M = 0 ∨ 32768 ^ (M - 1) ≤ n + m := by
    rcases Nat.le_total L K with g | g
    · have : M = K := by omega
      rcases h2.2 with e | e
      · omega
      · rw [this]; omega
    · have : M = L := by omega
      rcases h1.2 with e | e
      · omega
      · rw [this]; omega
  clear e1 e2 h1 h2
  have hd := digL_succ (n + m) M
  unfold limb at hd
  by_cases g : n + m < 32768 ^ M
  · exact .inl ⟨by rw [hc, Nat.div_eq_of_lt g], g, hlow⟩
  · have e : (n + m) / 32768 ^ M = 1 := by
      rw [Nat.div_eq_iff hp]; omega
    rw [e] at hd
    refine .inr ⟨by rw [hc, e], ⟨by omega, .inr (by simpa using Nat.le_of_not_lt g)⟩, by simpa using hd⟩
end Go.Proofs.YtogfiekbikechaaGreatDoor

namespace Go.Proofs.YtogfiekbikechaaGreatDoor
open Go.RowKit

set_option maxRecDepth 100000 in
set_option maxHeartbeats 4000000 in
theorem nadd_loop (n m L K M ca cb : Nat) (a b : Option Addr) (w : World) (c1 : Cn n L) (c2 : Cn m K) (hM : M = max L K) (hL : L ≤ 10000) (hK : K ≤ 10000) (h1 : At2 w a L n) (h2 : At2 w b K m) (hf : Fits (n + m)) :
    Calls Tryz.prog 56 #[.slice a L ca, .slice b K cb] w fun e w' => ∃ v, e = .returned v ∧ IsNat w' v (n + m) ∧ Ext w w' := by
  have H1 := Lib.hid h1
  have H2 := Lib.hid h2
  have HE := Lib.hid (add_end c1 c2 hM)
  have HF := Lib.hid hf
  have Z1 := Lib.hid (fun k => @dig_zero n L k c1.1)
  have Z2 := Lib.hid (fun k => @dig_zero m K k c2.1)
  clear h1 h2 c1 c2 hf
  go_enter Tryz.func56, Tryz.ntmps56
  go_wp2
  go_loopw [5, 6, 7] (fun o c i wr => ∃ k : Nat, k ≤ M ∧ i = .int .i64 (k : Nat) ∧ c = .int .i64 ((carA 32768 n m k : Nat) : Int) ∧ wr.ownsRow w.heap.size 3 1 o k ((digL (n + m) k).map (Value.int .i64)) ∧ Below w.heap.size w wr) (fun _ _ i _ => ((M : Int) - intOf i).toNat)
  case atStart => exact ⟨0, by omega, rfl, by rw [carA_zero]; rfl, ⟨by simp [digL], Or.inl ⟨rfl, rfl⟩⟩, Below.refl _ _⟩
  case round =>
    obtain ⟨k, hk, rfl, rfl, hown, hB'⟩ := hrel
    obtain ⟨i0, hi, hy0, hy1, hy2⟩ := info_parts infoI
    by_cases hA : k < L
    · by_cases hB : k < K
      · have hkM : k ≤ 10000 := Nat.le_trans (Nat.le_of_lt hA) hL
        have hml : k + 1 ≤ maxLen := by unfold maxLen; omega
        have hm8 : (k + 1) * 8 ≤ 140737488355328 := by omega
        have j1 : (k : Int) < (L : Int) := Int.ofNat_lt.2 hA
        have j2 : (k : Int) < (K : Int) := Int.ofNat_lt.2 hB
        have HX := Lib.hid (Nat.lt_of_lt_of_le hA (hM ▸ Nat.le_max_left L K))
        have HY : Hid (((M : Int) - ((k + 1 : Nat) : Int)).toNat < ((M : Int) - (k : Int)).toNat) := Lib.hid (by have := HX.out; omega)
        obtain ⟨DA, DB, C, r, q, T1, T2, eA, eB, eC, HQ, HD, z1, z2, p1, p2, p3, p4, ⟨t1, t2, t3, t4, t5, t6⟩, s1, s2⟩ := add_way n m k hkM
        rw [eC]
        obtain ⟨b1, o1, rfl, l1, f1⟩ := H1.out k hA
        rw [eA] at f1
        have hc1 := ((Ext.mk hB').cell (o1 + k) l1).trans f1
        clear f1
        obtain ⟨b2, o2, rfl, l2, f2⟩ := H2.out k hB
        rw [eB] at f2
        have hc2 := ((Ext.mk hB').cell (o2 + k) l2).trans f2
        clear f2
        have j0 : (0 : Int) ≤ (k : Nat) := Int.natCast_nonneg _
        have hs := hB'.size
        clear eA eB eC hk hM z1 z2
        go_wp2_with (at_builtin; refine wpList_append_own _ rfl (.tmp 40) (.tmp 43) 69 rfl w.heap.size 3 i0 (.int .i64 0) 1 8 Tryz.underlying69 hi hy0 hy1 hy2 rfl (by decide) _ k _ rfl (hown.alloc _) ⟨wr.heap.size, 0, none⟩ 1 1 [.int .i64 (r : Nat)] rfl rfl (cell_one_new _ _ _) (by simp [Value.oneCell']) hml hm8 (by first | exact Nat.le_succ_of_le hs | simpa using Nat.le_succ_of_le hs) ?_; intro v' w4 hown4 hg4 _)
        have hBz : Below w.heap.size w w4 := (hB'.alloc hs _).grown hg4 (by simpa using Nat.le_succ_of_le hs) (fun j hj => (hown.lt j hj).1)
        refine ⟨⟨k + 1, HX.out, rfl, by rw [HQ.out], ?_, hBz⟩, HY.out⟩
        rw [HD.out, List.map_append]
        exact hown4
      · have hkM : k ≤ 10000 := Nat.le_trans (Nat.le_of_lt hA) hL
        have hml : k + 1 ≤ maxLen := by unfold maxLen; omega
        have hm8 : (k + 1) * 8 ≤ 140737488355328 := by omega
        have j1 : (k : Int) < (L : Int) := Int.ofNat_lt.2 hA
        have j2 : ¬ (k : Int) < (K : Int) := fun h => hB (Int.ofNat_lt.1 h)
        have HX := Lib.hid (Nat.lt_of_lt_of_le hA (hM ▸ Nat.le_max_left L K))
        have HY : Hid (((M : Int) - ((k + 1 : Nat) : Int)).toNat < ((M : Int) - (k : Int)).toNat) := Lib.hid (by have := HX.out; omega)
        obtain ⟨DA, DB, C, r, q, T1, T2, eA, eB, eC, HQ, HD, z1, z2, p1, p2, p3, p4, ⟨t1, t2, t3, t4, t5, t6⟩, s1, s2⟩ := add_way n m k hkM
        rw [eC]
        obtain ⟨b1, o1, rfl, l1, f1⟩ := H1.out k hA
        rw [eA] at f1
        have hc1 := ((Ext.mk hB').cell (o1 + k) l1).trans f1
        clear f1
        obtain rfl : T1 = T2 := z2 (eB.symm.trans (Z2.out k hB))
        have j0 : (0 : Int) ≤ (k : Nat) := Int.natCast_nonneg _
        have hs := hB'.size
        clear eA eB eC hk hM z1 z2
        go_wp2_with (at_builtin; refine wpList_append_own _ rfl (.tmp 40) (.tmp 43) 69 rfl w.heap.size 3 i0 (.int .i64 0) 1 8 Tryz.underlying69 hi hy0 hy1 hy2 rfl (by decide) _ k _ rfl (hown.alloc _) ⟨wr.heap.size, 0, none⟩ 1 1 [.int .i64 (r : Nat)] rfl rfl (cell_one_new _ _ _) (by simp [Value.oneCell']) hml hm8 (by first | exact Nat.le_succ_of_le hs | simpa using Nat.le_succ_of_le hs) ?_; intro v' w4 hown4 hg4 _)
        have hBz : Below w.heap.size w w4 := (hB'.alloc hs _).grown hg4 (by simpa using Nat.le_succ_of_le hs) (fun j hj => (hown.lt j hj).1)
        refine ⟨⟨k + 1, HX.out, rfl, by rw [HQ.out], ?_, hBz⟩, HY.out⟩
        rw [HD.out, List.map_append]
        exact hown4
    · by_cases hB : k < K
      · have hkM : k ≤ 10000 := Nat.le_trans (Nat.le_of_lt hB) hK
        have hml : k + 1 ≤ maxLen := by unfold maxLen; omega
        have hm8 : (k + 1) * 8 ≤ 140737488355328 := by omega
        have j1 : ¬ (k : Int) < (L : Int) := fun h => hA (Int.ofNat_lt.1 h)
        have j2 : (k : Int) < (K : Int) := Int.ofNat_lt.2 hB
        have HX := Lib.hid (Nat.lt_of_lt_of_le hB (hM ▸ Nat.le_max_right L K))
        have HY : Hid (((M : Int) - ((k + 1 : Nat) : Int)).toNat < ((M : Int) - (k : Int)).toNat) := Lib.hid (by have := HX.out; omega)
        obtain ⟨DA, DB, C, r, q, T1, T2, eA, eB, eC, HQ, HD, z1, z2, p1, p2, p3, p4, ⟨t1, t2, t3, t4, t5, t6⟩, s1, s2⟩ := add_way n m k hkM
        rw [eC]
        obtain rfl : C = T1 := z1 (eA.symm.trans (Z1.out k hA))
        obtain ⟨b2, o2, rfl, l2, f2⟩ := H2.out k hB
        rw [eB] at f2
        have hc2 := ((Ext.mk hB').cell (o2 + k) l2).trans f2
        clear f2
        have j0 : (0 : Int) ≤ (k : Nat) := Int.natCast_nonneg _
        have hs := hB'.size
        clear eA eB eC hk hM z1 z2
        go_wp2_with (at_builtin; refine wpList_append_own _ rfl (.tmp 40) (.tmp 43) 69 rfl w.heap.size 3 i0 (.int .i64 0) 1 8 Tryz.underlying69 hi hy0 hy1 hy2 rfl (by decide) _ k _ rfl (hown.alloc _) ⟨wr.heap.size, 0, none⟩ 1 1 [.int .i64 (r : Nat)] rfl rfl (cell_one_new _ _ _) (by simp [Value.oneCell']) hml hm8 (by first | exact Nat.le_succ_of_le hs | simpa using Nat.le_succ_of_le hs) ?_; intro v' w4 hown4 hg4 _)
        have hBz : Below w.heap.size w w4 := (hB'.alloc hs _).grown hg4 (by simpa using Nat.le_succ_of_le hs) (fun j hj => (hown.lt j hj).1)
        refine ⟨⟨k + 1, HX.out, rfl, by rw [HQ.out], ?_, hBz⟩, HY.out⟩
        rw [HD.out, List.map_append]
        exact hown4
      · have eM : k = M := by omega
        subst eM
        have j1 : ¬ (k : Int) < (L : Int) := fun h => hA (Int.ofNat_lt.1 h)
        have j2 : ¬ (k : Int) < (K : Int) := fun h => hB (Int.ofNat_lt.1 h)
        rcases HE.out with ⟨e, hC⟩ | ⟨e, hC, hd⟩
        · rw [e]
          have R := own_nat hown (HF.out.cn hC) hC
          clear hA hB hM hk e hC
          go_wp2
          go_ret
          exact ⟨_, rfl, R, ⟨hB'⟩⟩
        · rw [e]
          have hk2 : k + 1 ≤ 10000 := HF.out.cn hC
          have hml : k + 1 ≤ maxLen := by unfold maxLen; omega
          have hm8 : (k + 1) * 8 ≤ 140737488355328 := by omega
          have HD := Lib.hid hd
          have HC := Lib.hid hC
          have hs := hB'.size
          clear hA hB hM hk e hC hd
          go_wp2_with (at_builtin; refine wpList_append_own _ rfl (.tmp 49) (.tmp 51) 69 rfl w.heap.size 3 i0 (.int .i64 0) 1 8 Tryz.underlying69 hi hy0 hy1 hy2 rfl (by decide) _ k _ rfl (hown.alloc _) ⟨wr.heap.size, 0, none⟩ 1 1 [.int .i64 (1 : Nat)] rfl rfl (cell_one_new _ _ _) (by simp [Value.oneCell']) hml hm8 (by first | exact Nat.le_succ_of_le hs | simpa using Nat.le_succ_of_le hs) ?_; intro v' w4 hown4 hg4 _)
          have hBz : Below w.heap.size w w4 := (hB'.alloc hs _).grown hg4 (by simpa using Nat.le_succ_of_le hs) (fun j hj => (hown.lt j hj).1)
          have own5 : w4.ownsRow w.heap.size 3 1 v' (k + 1) ((digL (n + m) (k + 1)).map (Value.int .i64)) := by rw [HD.out, List.map_append]; exact hown4
          have R := own_nat own5 hk2 HC.out
          go_ret
          exact ⟨_, rfl, R, ⟨hBz⟩⟩
theorem nadd_any {n m : Nat} {v u : Value} {w : World} (h : IsNat w v n) (k : IsNat w u m) (hf : Fits (n + m)) : Calls Tryz.prog 56 #[v, u] w fun e w' => ∃ x, e = .returned x ∧ IsNat w' x (n + m) ∧ Ext w w' := by
  obtain ⟨a, L, c, rfl, h1, h2, h3⟩ := h.at2
  obtain ⟨b, K, d, rfl, k1, k2, k3⟩ := k.at2
  exact nadd_loop n m L K _ c d a b w h1 k1 rfl h2 k2 h3 k3 hf
end Go.Proofs.YtogfiekbikechaaGreatDoor

namespace Go.Proofs.YtogfiekbikechaaGreatDoor
open Go.ChangeShapes Go.WideShapes Go.ChangeAt Go.RowKit

/-- A new block, w.heap.size, of N digits of X; what lay in w lies there. -/
structure Drow (w wr : World) (N X : Nat) : Prop where
  cell : ∀ j, j < N → wr.cell? ⟨w.heap.size, j, none⟩ = some (.int .i64 (limb 32768 X j : Nat))
  froz : ∀ j, wr.frozen? ⟨w.heap.size, j, none⟩ = false
  size : w.heap.size < wr.heap.size
  ext : Ext w wr
theorem Drow.start (w : World) (N : Nat) (T : TypeId) : Drow w (w.alloc (.cells (madeCells #[.int .i64 0] N) T)) N 0 where
  cell := fun j hj => by simp [go_sem, madeCells, hj, limb_zero, Nat.mod_one]
  froz := fun j => by simp [go_sem]
  size := by simp
  ext := (Ext.refl w).alloc _
theorem Drow.drew {w wr : World} {N X : Nat} (h : Drow w wr N X) : Drow w wr.drew N X where
  cell := fun j hj => (((Ext.refl wr).drew).cell j h.size).trans (h.cell j hj)
  froz := fun j => (((Ext.refl wr).drew).froz j h.size).trans (h.froz j)
  size := Nat.lt_of_lt_of_le h.size ((Ext.refl wr).drew).size
  ext := h.ext.drew
theorem Drow.put {w wr : World} {N X p r : Nat} (h : Drow w wr N X) (hp : p < N) (hr : r < 32768) : Drow w (wr.setCell ⟨w.heap.size, p, none⟩ (.int .i64 (r : Nat))) N (putD X p r) where
  cell := fun j hj => by
    rw [putD_get hr]
    by_cases e : j = p
    · subst e; rw [if_pos rfl]; exact World.cell?_setCell_same' _ _ _ (by rw [h.cell j hj]; rfl)
    · rw [if_neg e, ← h.cell j hj]
      apply World.cell?_setCell_other; intro e2; simp at e2; try exact e e2.symm
  froz := fun j => by rw [World.frozen?_setCell]; exact h.froz j
  size := by simpa using h.size
  ext := h.ext.setCell (by simp) _
theorem Drow.at2 {w wr : World} {N X : Nat} (h : Drow w wr N X) : At2 wr (some ⟨w.heap.size, 0, none⟩) N X :=
  fun j hj => ⟨_, _, rfl, h.size, by rw [Nat.zero_add]; exact h.cell j hj⟩
theorem nat_of_at2 {w : World} {a : Option Addr} {L n k c : Nat} (h : At2 w a L n) (hk : k ≤ L) (hC : Cn n k) (hk2 : k ≤ 10000) (hc : a = none → c = 0) : IsNat w (.slice a k c) n := by
  refine ⟨k, hC, hk2, ?_⟩
  cases a with
  | none =>
    have : k = 0 := by
      rcases Nat.eq_zero_or_pos k with e | e
      · exact e
      · obtain ⟨b, o, e1, _⟩ := h 0 (by omega); cases e1
    subst this
    rw [hc rfl]; exact Or.inl ⟨rfl, by simp [digL]⟩
  | some ad =>
    refine Or.inr ⟨ad, c, by rw [digL_length], by rw [digL_length]; omega, fun j hj => ?_, digL_wf⟩
    rw [digL_length] at hj
    obtain ⟨b, o, e1, _, e2⟩ := h j (by omega)
    cases e1
    rw [add_plain, digL_get hj]; exact e2
theorem At2.later {w w' : World} {a : Option Addr} {L n : Nat} (h : At2 w a L n) (hx : Ext w w') : At2 w' a L n := fun j hj => by
  obtain ⟨b, o, e, l, c⟩ := h j hj
  exact ⟨b, o, e, Nat.lt_of_lt_of_le l hx.size, (hx.cell _ l).trans c⟩
/-- A round of cut: the digit above says whether n has a digit less. -/
theorem cut_way {n q : Nat} (hn : n < 32768 ^ (q + 1)) : ∃ A : Nat, limb 32768 n q = A ∧ (A = 0 → n < 32768 ^ q) ∧ (¬ A = 0 → Cn n (q + 1)) := by
  have hp := pw q
  rw [Nat.pow_succ] at hn
  have e : limb 32768 n q = n / 32768 ^ q := by
    unfold limb
    exact Nat.mod_eq_of_lt (Nat.div_lt_of_lt_mul hn)
  refine ⟨_, rfl, fun h => ?_, fun h => ⟨by rw [Nat.pow_succ]; exact hn, .inr ?_⟩⟩
  · rw [e] at h
    rcases (Nat.div_eq_zero_iff).1 h with g | g
    · omega
    · exact g
  · rw [Nat.add_sub_cancel]
    rcases Nat.lt_or_ge n (32768 ^ q) with g | g
    · exact absurd (by rw [e, Nat.div_eq_of_lt g]) h
    · exact g
theorem cut_wrap {q : Nat} (h : q ≤ 20000) : IntKind.i64.wrap ((q : Int) - 1) = (q : Int) - 1 ∧ wrap64 ((q : Int) - 1) = (q : Int) - 1 := ⟨IntWalk.i64_in _ ⟨by omega, by omega⟩, by unfold wrap64; omega⟩
set_option maxRecDepth 100000 in
set_option maxHeartbeats 2000000 in
theorem ncut_any {w : World} {a : Option Addr} {L n c : Nat} (hL : L ≤ 20000) (hn : n < 32768 ^ L) (h : At2 w a L n) (hc : L ≤ c) (hc0 : a = none → c = 0) (hf : Fits n) :
    Calls Tryz.prog 97 #[.slice a L c] w fun e w' => ∃ v, e = .returned v ∧ IsNat w' v n ∧ Ext w w' := by
  have HN := Lib.hid hn
  have H := Lib.hid h
  have HF := Lib.hid hf
  have H0 := Lib.hid hc0
  clear hn h hf hc0
  go_enter Tryz.func97, Tryz.ntmps97
  go_wp2
  go_loopw [3] (fun i wr => ∃ k : Nat, k ≤ L ∧ i = .int .i64 (k : Int) ∧ Hid (n < 32768 ^ k) ∧ wr = w) (fun i _ => (intOf i).toNat)
  case atStart => exact ⟨L, Nat.le_refl _, rfl, HN, rfl⟩
  case round =>
    obtain ⟨k, hk, rfl, HK, rfl⟩ := hrel
    cases k with
    | zero =>
      have R := Lib.hid (nat_of_at2 (k := 0) H.out (Nat.zero_le _) ⟨HK.out, .inl rfl⟩ (by omega) H0.out)
      go_wp2
      go_ret
      exact ⟨_, rfl, R.out, Ext.refl _⟩
    | succ q =>
      obtain ⟨A, eA, z1, z2⟩ := cut_way HK.out
      obtain ⟨b, o, rfl, l, f⟩ := H.out q hk
      rw [eA] at f
      have hq := Lib.hid hk
      have Z1 := Lib.hid z1
      have Z2 := Lib.hid z2
      have i1 : ((q + 1 : Nat) : Int) - 1 = (q : Int) := by omega
      obtain ⟨w1, w2⟩ := @cut_wrap (q + 1) (by omega)
      rw [i1] at w1 w2
      clear z1 z2 eA
      have g0 : ((q + 1 : Nat) : Int) > 0 := by omega
      have j0 : (0 : Int) ≤ (q : Int) := Int.natCast_nonneg _
      have j1 : (q : Int) < (L : Int) := by omega
      have c1 : q + 1 ≤ c := by omega
      have c2 : ((q + 1 : Nat) : Int) ≤ (c : Int) := by omega
      have c3 : (0 : Int) ≤ ((q + 1 : Nat) : Int) := Int.natCast_nonneg _
      by_cases hA : A = 0
      · subst hA
        have R := Lib.hid (Z1.out rfl)
        clear hk
        go_wp2
        go_roundw
        case rel => exact ⟨q, Nat.le_of_succ_le hq.out, by first | rfl | go_num, R, by first | rfl | trivial⟩
        case measure => simp [intOf]; try omega
      · have R := Lib.hid (nat_of_at2 (k := q + 1) H.out hk (Z2.out hA) (HF.out.cn (Z2.out hA)) H0.out)
        have hA2 : ((A : Int) == 0) = false := by simpa using hA
        have hA3 : ¬ (A : Int) = 0 := by omega
        clear hk
        go_wp2
        go_ret
        exact ⟨_, rfl, R.out, Ext.refl _⟩
end Go.Proofs.YtogfiekbikechaaGreatDoor

namespace Go.Proofs.YtogfiekbikechaaGreatDoor
open Go.ChangeShapes Go.WideShapes Go.ChangeAt Go.RowKit

theorem mul_fit {n m L K : Nat} (hn : n < 32768 ^ L) (hm : m < 32768 ^ K) : n * m < 32768 ^ (L + K) := by rw [Nat.pow_add]; exact Nat.mul_lt_mul'' hn hm
theorem k_next {i k q N : Nat} (h : q = i + k) (g : q < N) : k + 1 ≤ N := by omega
theorem k_less {i k q N : Nat} (h : q = i + k) (g : q < N) : ((N : Int) - ((k + 1 : Nat) : Int)).toNat < ((N : Int) - (k : Int)).toNat := by omega
theorem k_bd {q N : Nat} (g : q < N) (b : N ≤ 20000) : q ≤ 40000 := by omega
theorem k_bd2 {i k q N : Nat} (h : q = i + k) (g : q < N) (b : N ≤ 20000) : k ≤ 30000 := by omega
theorem i_bd {i L : Nat} (g : i < L) (b : L ≤ 10000) : i + 1 ≤ 40000 := by omega
theorem i_less {i L : Nat} (g : i < L) : ((L : Int) - ((i + 1 : Nat) : Int)).toNat < ((L : Int) - (i : Int)).toNat := by omega
set_option maxRecDepth 100000 in
set_option maxHeartbeats 4000000 in
theorem nmul_loop (n m L K N ca cb : Nat) (a b : Option Addr) (w : World) (hn : n < 32768 ^ L) (hm : m < 32768 ^ K) (hN : N = L + K) (hL : L ≤ 10000) (hK : K ≤ 10000) (h1 : At2 w a L n) (h2 : At2 w b K m) (hf : Fits (n * m)) :
    Calls Tryz.prog 73 #[.slice a L ca, .slice b K cb] w fun e w' => ∃ v, e = .returned v ∧ IsNat w' v (n * m) ∧ Ext w w' := by
  have H1 := Lib.hid h1
  have H2 := Lib.hid h2
  have HF := Lib.hid hf
  have HM := Lib.hid hm
  have IN := Lib.hid (fun i k X c (h : Mrow n m i k X c) (hi : i < L) (hk : k < K ∨ 0 < c) => (by rw [hN]; exact mrow_in h hn hm hi hk : i + k < N))
  have FT := Lib.hid (show n * m < 32768 ^ N by rw [hN]; exact mul_fit hn hm)
  have ME := Lib.hid (show n % 32768 ^ L = n from Nat.mod_eq_of_lt hn)
  have Z2 := Lib.hid (fun k => @dig_zero m K k hm)
  have hmk := run_make_row' (P := Tryz.prog) 69 3 (.int .i64 0) 8 Tryz.underlying69 infoI rfl .i64 .i64 N (by omega) (by omega)
  have n1 : IntKind.i64.wrap ((L : Int) + K) = N := (@place_way L K N hN (by omega)).1
  have n2 : wrap64 ((L : Int) + K) = N := (@place_way L K N hN (by omega)).2
  have bN := Lib.hid (show N ≤ 20000 by omega)
  have BL := Lib.hid hL
  have BK := Lib.hid hK
  clear hn hm h1 h2 hf hN
  go_enter Tryz.func73, Tryz.ntmps73
  go_wp2
  go_loopw [6] (fun j wr => ∃ i : Nat, i ≤ L ∧ j = .int .i64 (i : Int) ∧ Hid (Drow w wr N ((n % 32768 ^ i) * m))) (fun j _ => (L - intOf j).toNat)
  case atStart => exact ⟨0, Nat.zero_le _, rfl, Lib.hid (by simpa [Nat.mod_one] using Drow.start w N 3)⟩
  case round =>
    obtain ⟨i, hi, rfl, HD⟩ := hrel
    clear n1 n2 hmk
    by_cases hiL : i < L
    · have g1 : (i : Int) < (L : Int) := Int.ofNat_lt.2 hiL
      have HX := Lib.hid hiL
      have HY := Lib.hid (i_less hiL)
      have i1 := (@place_way i 1 (i + 1) rfl (i_bd hiL BL.out)).1
      have i2 := (@place_way i 1 (i + 1) rfl (i_bd hiL BL.out)).2
      rw [show ((1 : Nat) : Int) = 1 from rfl] at i1 i2
      obtain ⟨ba, oa, rfl, la, fa⟩ := H1.out i hiL
      have FA := Lib.hid fa
      clear hi hiL fa
      go_wp2
      go_loopw [7, 8] (fun c j u => ∃ (u2 : World) (k c' X : Nat), u2 = u ∧ k ≤ N ∧ c = .int .i64 (c' : Int) ∧ j = .int .i64 (k : Int) ∧ Hid (Mrow n m i k X c') ∧ Hid (Drow w u N X)) (fun _ j _ => ((N : Int) - intOf j).toNat)
      case atStart => exact ⟨_, 0, 0, _, rfl, Nat.zero_le _, rfl, rfl, Lib.hid (mrow_start n m i), HD⟩
      case round =>
        obtain ⟨u2, k, c, X, hu, hk, rfl, rfl, HM2, HD2⟩ := hrel
        subst hu
        by_cases hkK : k < K

        · have g2 : (k : Int) < (K : Int) := Int.ofNat_lt.2 hkK
          have hin := IN.out i k X c HM2.out HX.out (.inl hkK)
          obtain ⟨q0, hq0⟩ : ∃ q0, q0 = i + k := ⟨_, rfl⟩
          rw [← hq0] at hin
          have j0 : (0 : Int) ≤ (q0 : Int) := Int.natCast_nonneg _
          have j1 : (q0 : Int) < (N : Int) := Int.ofNat_lt.2 hin
          have KN := Lib.hid (k_next hq0 hin)
          have HZ := Lib.hid (k_less hq0 hin)
          obtain ⟨y1, y2⟩ := @place_way i k q0 hq0 (k_bd hin bN.out)
          obtain ⟨A, B, D, T1, AB, T, r, q, eA, eB, eD, HS, HR, z, p1, p2, p3, p4, p5, p6, t1, t2, t3, t4, t5, t6, s1, s2⟩ := mul_way HM2.out hq0 (k_bd2 hq0 hin bN.out)
          have hD := HD2.out.cell q0 hin
          rw [eD] at hD
          have hF := HD2.out.froz q0
          have IN2 := Lib.hid hin
          obtain ⟨bb, ob, rfl, lb, fb⟩ := H2.out k hkK
          have fa := FA.out
          rw [eA] at fa
          rw [eB] at fb
          have k0 : (0 : Int) ≤ (k : Int) := Int.natCast_nonneg _
          have i0 : (0 : Int) ≤ (i : Int) := Int.natCast_nonneg _
          have ha := (HD2.out.ext.cell _ la).trans fa
          have hb := (HD2.out.ext.cell _ lb).trans fb
          clear eA eB eD z fa fb hk hkK hin hq0
          go_wp2
          go_region
          all_goals
            go_wp2
            go_roundw
            case rel => exact ⟨_, k + 1, q, putD X q0 r, rfl, KN.out, rfl, by first | rfl | go_num, HS, Lib.hid (by first | exact (HD2.out.put IN2.out HR.out).drew | exact HD2.out.drew.put IN2.out HR.out)⟩
            case measure => first | exact HZ.out | (simp [intOf]; have := HZ.out; omega)
        · have g2 : ¬ (k : Int) < (K : Int) := fun h => hkK (Int.ofNat_lt.1 h)
          by_cases hc0 : c = 0
          · subst hc0
            have HE := Lib.hid (mrow_end HM2.out (dig_hi HM.out (Nat.le_of_not_lt hkK)))
            clear hk hkK
            go_wp2
            go_roundw
            case rel => exact ⟨i + 1, HX.out, by first | rfl | go_num, by rw [← HE.out]; exact HD2⟩
            case measure => first | exact HY.out | (simp [intOf]; have := HY.out; omega)
          have g4 := Nat.pos_of_ne_zero hc0
          have g3 : (c : Int) > 0 := Int.ofNat_lt.2 g4
          have hin := IN.out i k X c HM2.out HX.out (.inr g4)
          obtain ⟨q0, hq0⟩ : ∃ q0, q0 = i + k := ⟨_, rfl⟩
          rw [← hq0] at hin
          have j0 : (0 : Int) ≤ (q0 : Int) := Int.natCast_nonneg _
          have j1 : (q0 : Int) < (N : Int) := Int.ofNat_lt.2 hin
          have KN := Lib.hid (k_next hq0 hin)
          have HZ := Lib.hid (k_less hq0 hin)
          obtain ⟨y1, y2⟩ := @place_way i k q0 hq0 (k_bd hin bN.out)
          obtain ⟨A, B, D, T1, AB, T, r, q, eA, eB, eD, HS, HR, z, p1, p2, p3, p4, p5, p6, t1, t2, t3, t4, t5, t6, s1, s2⟩ := mul_way HM2.out hq0 (k_bd2 hq0 hin bN.out)
          have hD := HD2.out.cell q0 hin
          rw [eD] at hD
          have hF := HD2.out.froz q0
          have IN2 := Lib.hid hin
          obtain rfl : T1 = T := z (eB.symm.trans (Z2.out k hkK))
          clear eA eB eD z hk hkK hin hq0 hc0
          go_wp2
          go_roundw
          case rel => exact ⟨_, k + 1, q, putD X q0 r, rfl, KN.out, rfl, by first | rfl | go_num, HS, Lib.hid (HD2.out.put IN2.out HR.out)⟩
          case measure => first | exact HZ.out | (simp [intOf]; have := HZ.out; omega)
    · have e : i = L := Nat.le_antisymm hi (Nat.le_of_not_lt hiL)
      subst e
      have g1 : ¬ (i : Int) < (i : Int) := Int.lt_irrefl _
      have hd := HD.out
      rw [ME.out] at hd
      have HC := Lib.hid (fun w0 (h : At2 w0 (some ⟨w.heap.size, 0, none⟩) N (n * m)) => ncut_any (w := w0) (c := N) bN.out FT.out h (Nat.le_refl _) (fun h => by cases h) HF.out)
      have HD2 := Lib.hid hd
      clear hi hiL hd HD
      go_wp2_with fail
      refine (HC.out _ HD2.out.at2).mono ?_
      rintro e w1 ⟨v, rfl, hv, hx⟩
      have R := Lib.hid hv
      have X := Lib.hid (HD2.out.ext.trans hx)
      clear hv hx
      go_wp2
      go_ret
      exact ⟨_, rfl, R.out, X.out⟩
theorem nmul_any {n m : Nat} {v u : Value} {w : World} (h : IsNat w v n) (k : IsNat w u m) (hf : Fits (n * m)) : Calls Tryz.prog 73 #[v, u] w fun e w' => ∃ x, e = .returned x ∧ IsNat w' x (n * m) ∧ Ext w w' := by
  obtain ⟨a, L, c, rfl, h1, h2, h3⟩ := h.at2
  obtain ⟨b, K, d, rfl, k1, k2, k3⟩ := k.at2
  exact nmul_loop n m L K _ c d a b w h1.1 k1.1 rfl h2 k2 h3 k3 hf
end Go.Proofs.YtogfiekbikechaaGreatDoor

namespace Go.Proofs.YtogfiekbikechaaGreatDoor
open Go.ChangeShapes Go.WideShapes Go.ChangeAt Go.RowKit

theorem own_at2 {w : World} {base : Nat} {v : Value} {n L : Nat} {T : TypeId} (h : w.ownsRow base T 1 v L ((digL n L).map (Value.int .i64))) : ∃ a c, v = .slice a L c ∧ L ≤ c ∧ (a = none → c = 0) ∧ At2 w a L n := by
  obtain ⟨hl, ⟨rfl, rfl⟩ | ⟨g, cap, cur, rfl, hg, hh, h1, h2, h3, h4⟩⟩ := h
  · exact ⟨none, 0, rfl, Nat.le_refl _, fun _ => rfl, fun j hj => absurd hj (Nat.not_lt_zero _)⟩
  · refine ⟨_, cap, rfl, h1, fun e => (by cases e), fun j hj => ⟨g, 0, rfl, (Array.getElem?_eq_some_iff.1 hh).1, ?_⟩⟩
    have e : ((digL n L).map (Value.int .i64))[j]? = some (.int .i64 (limb 32768 n j : Nat)) := by simp [digL, hj]
    rw [← h4, List.getElem?_take_of_lt (by omega), Array.getElem?_toList] at e
    simp only [World.cell?, hh]
    simpa using e
theorem sub_low {s m L : Nat} (h : s + m < 32768 ^ L) : s < 32768 ^ L := by omega
set_option maxRecDepth 100000 in
set_option maxHeartbeats 4000000 in
theorem nsub_loop (s m L K ca cb : Nat) (a b : Option Addr) (w : World) (hn : s + m < 32768 ^ L) (hm : m < 32768 ^ K) (hL : L ≤ 10000) (_hK : K ≤ 10000) (h1 : At2 w a L (s + m)) (h2 : At2 w b K m) (hf : Fits s) :
    Calls Tryz.prog 67 #[.slice a L ca, .slice b K cb] w fun e w' => ∃ v, e = .returned v ∧ IsNat w' v s ∧ Ext w w' := by
  have H1 := Lib.hid h1
  have H2 := Lib.hid h2
  have HF := Lib.hid hf
  have HS := Lib.hid (sub_low hn)
  have Z2 := Lib.hid (fun k => @dig_zero m K k hm)
  have BL := Lib.hid hL
  clear hn hm h1 h2 hf
  go_enter Tryz.func67, Tryz.ntmps67
  go_wp2
  go_loopw [5, 6, 7] (fun o c i wr => ∃ k : Nat, k ≤ L ∧ i = .int .i64 (k : Nat) ∧ c = .int .i64 ((carA 32768 s m k : Nat) : Int) ∧ wr.ownsRow w.heap.size 3 1 o k ((digL s k).map (Value.int .i64)) ∧ Below w.heap.size w wr) (fun _ _ i _ => ((L : Int) - intOf i).toNat)
  case atStart => exact ⟨0, by omega, rfl, by rw [carA_zero]; rfl, ⟨by simp [digL], Or.inl ⟨rfl, rfl⟩⟩, Below.refl _ _⟩
  case round =>
    obtain ⟨k, hk, rfl, rfl, hown, hB'⟩ := hrel
    obtain ⟨i0, hi, hy0, hy1, hy2⟩ := info_parts infoI
    by_cases hA : k < L
    · have hkM : k ≤ 10000 := Nat.le_trans (Nat.le_of_lt hA) hL
      have hml : k + 1 ≤ maxLen := by unfold maxLen; omega
      have hm8 : (k + 1) * 8 ≤ 140737488355328 := by omega
      have j1 : (k : Int) < (L : Int) := Int.ofNat_lt.2 hA
      have j0 : (0 : Int) ≤ (k : Nat) := Int.natCast_nonneg _
      have HX := Lib.hid hA
      have HY := Lib.hid (i_less hA)
      obtain ⟨A, B, C, S, q, T1, T2, eA, eB, eC, HQ, HD, z, p1, p2, p3, p4, neg, pos, p5, p6, s1, s2⟩ := sub_way s m k hkM
      rw [eC]
      obtain ⟨b1, o1, rfl, l1, f1⟩ := H1.out k hA
      rw [eA] at f1
      have hc1 := ((Ext.mk hB').cell (o1 + k) l1).trans f1
      have hs := hB'.size
      have Z := Lib.hid z
      have NG := Lib.hid neg
      have PS := Lib.hid pos
      have EB := Lib.hid eB
      clear f1 eA eC hk hA z neg pos
      by_cases hB : k < K
      · have j2 : (k : Int) < (K : Int) := Int.ofNat_lt.2 hB
        obtain ⟨b2, o2, rfl, l2, f2⟩ := H2.out k hB
        rw [eB] at f2
        have hc2 := ((Ext.mk hB').cell (o2 + k) l2).trans f2
        clear f2 eB hB

        by_cases ht : T2 < 0
        · obtain ⟨r1, r2, Q2⟩ := NG.out ht
          have Q2 := Lib.hid Q2
          go_wp2_with (at_builtin; refine wpList_append_own _ rfl (.tmp 35) (.tmp 37) 69 rfl w.heap.size 3 i0 (.int .i64 0) 1 8 Tryz.underlying69 hi hy0 hy1 hy2 rfl (by decide) _ k _ rfl (hown.alloc _) ⟨wr.heap.size, 0, none⟩ 1 1 [.int .i64 (S : Nat)] rfl rfl (cell_one_new _ _ _) (by simp [Value.oneCell']) hml hm8 (by first | exact Nat.le_succ_of_le hs | simpa using Nat.le_succ_of_le hs) ?_; intro v' w4 hown4 hg4 _)
          have hBz : Below w.heap.size w w4 := (hB'.alloc hs _).grown hg4 (by simpa using Nat.le_succ_of_le hs) (fun j hj => (hown.lt j hj).1)
          refine ⟨⟨k + 1, HX.out, rfl, by rw [HQ.out, Q2.out]; rfl, ?_, hBz⟩, HY.out⟩
          rw [HD.out, List.map_append]
          exact hown4
        · obtain ⟨r1, Q2⟩ := PS.out ht
          subst r1
          have Q2 := Lib.hid Q2
          go_wp2_with (at_builtin; refine wpList_append_own _ rfl (.tmp 35) (.tmp 37) 69 rfl w.heap.size 3 i0 (.int .i64 0) 1 8 Tryz.underlying69 hi hy0 hy1 hy2 rfl (by decide) _ k _ rfl (hown.alloc _) ⟨wr.heap.size, 0, none⟩ 1 1 [.int .i64 (S : Nat)] rfl rfl (cell_one_new _ _ _) (by simp [Value.oneCell']) hml hm8 (by first | exact Nat.le_succ_of_le hs | simpa using Nat.le_succ_of_le hs) ?_; intro v' w4 hown4 hg4 _)
          have hBz : Below w.heap.size w w4 := (hB'.alloc hs _).grown hg4 (by simpa using Nat.le_succ_of_le hs) (fun j hj => (hown.lt j hj).1)
          refine ⟨⟨k + 1, HX.out, rfl, by rw [HQ.out, Q2.out]; rfl, ?_, hBz⟩, HY.out⟩
          rw [HD.out, List.map_append]
          exact hown4
      · have j2 : ¬ (k : Int) < (K : Int) := fun h => hB (Int.ofNat_lt.1 h)
        obtain rfl : T2 = T1 := Z.out (eB.symm.trans (Z2.out k hB))
        clear eB hB p3 p4
        by_cases ht : T2 < 0
        · obtain ⟨r1, r2, Q2⟩ := NG.out ht
          have Q2 := Lib.hid Q2
          go_wp2_with (at_builtin; refine wpList_append_own _ rfl (.tmp 35) (.tmp 37) 69 rfl w.heap.size 3 i0 (.int .i64 0) 1 8 Tryz.underlying69 hi hy0 hy1 hy2 rfl (by decide) _ k _ rfl (hown.alloc _) ⟨wr.heap.size, 0, none⟩ 1 1 [.int .i64 (S : Nat)] rfl rfl (cell_one_new _ _ _) (by simp [Value.oneCell']) hml hm8 (by first | exact Nat.le_succ_of_le hs | simpa using Nat.le_succ_of_le hs) ?_; intro v' w4 hown4 hg4 _)
          have hBz : Below w.heap.size w w4 := (hB'.alloc hs _).grown hg4 (by simpa using Nat.le_succ_of_le hs) (fun j hj => (hown.lt j hj).1)
          refine ⟨⟨k + 1, HX.out, rfl, by rw [HQ.out, Q2.out]; rfl, ?_, hBz⟩, HY.out⟩
          rw [HD.out, List.map_append]
          exact hown4
        · obtain ⟨r1, Q2⟩ := PS.out ht
          subst r1
          have Q2 := Lib.hid Q2
          go_wp2_with (at_builtin; refine wpList_append_own _ rfl (.tmp 35) (.tmp 37) 69 rfl w.heap.size 3 i0 (.int .i64 0) 1 8 Tryz.underlying69 hi hy0 hy1 hy2 rfl (by decide) _ k _ rfl (hown.alloc _) ⟨wr.heap.size, 0, none⟩ 1 1 [.int .i64 (S : Nat)] rfl rfl (cell_one_new _ _ _) (by simp [Value.oneCell']) hml hm8 (by first | exact Nat.le_succ_of_le hs | simpa using Nat.le_succ_of_le hs) ?_; intro v' w4 hown4 hg4 _)
          have hBz : Below w.heap.size w w4 := (hB'.alloc hs _).grown hg4 (by simpa using Nat.le_succ_of_le hs) (fun j hj => (hown.lt j hj).1)
          refine ⟨⟨k + 1, HX.out, rfl, by rw [HQ.out, Q2.out]; rfl, ?_, hBz⟩, HY.out⟩
          rw [HD.out, List.map_append]
          exact hown4
    · have e : k = L := Nat.le_antisymm hk (Nat.le_of_not_lt hA)
      subst e
      have j1 : ¬ (k : Int) < (k : Int) := Int.lt_irrefl _
      obtain ⟨a', c', rfl, g1, g2, g3⟩ := own_at2 hown
      have HC := Lib.hid (ncut_any (show k ≤ 20000 by omega) HS.out g3 g1 g2 HF.out)
      have X0 := Lib.hid (Ext.mk hB')
      clear hk hA hown hB' g1 g2 g3
      go_wp2_with fail
      refine HC.out.mono ?_
      rintro e w1 ⟨v, rfl, hv, hx⟩
      have R := Lib.hid hv
      have X := Lib.hid (X0.out.trans hx)
      clear hv hx
      go_wp2
      go_ret
      exact ⟨_, rfl, R.out, X.out⟩
theorem nsub_any {n m : Nat} {v u : Value} {w : World} (h : IsNat w v n) (k : IsNat w u m) (hle : m ≤ n) (hf : Fits n) : Calls Tryz.prog 67 #[v, u] w fun e w' => ∃ x, e = .returned x ∧ IsNat w' x (n - m) ∧ Ext w w' := by
  obtain ⟨s, rfl⟩ : ∃ s, n = s + m := ⟨n - m, by omega⟩
  obtain ⟨a, L, c, rfl, h1, h2, h3⟩ := h.at2
  obtain ⟨b, K, d, rfl, k1, k2, k3⟩ := k.at2
  rw [Nat.add_sub_cancel]
  exact nsub_loop s m L K c d a b w h1.1 k1.1 h2 k2 h3 k3 (fits_le hf (by omega))
end Go.Proofs.YtogfiekbikechaaGreatDoor

namespace Go.Proofs.YtogfiekbikechaaGreatDoor
open Go.ChangeShapes Go.WideShapes Go.ChangeAt Go.RowKit

theorem shl1 {r P : Nat} (hr : r < 15) (hP : P = 2 ^ r) : Op.shift .shl .i64 1 .i64 (r : Int) = pure (.int .i64 (P : Int)) := by
  subst hP
  have b : min r IntKind.i64.bits = r := by have : IntKind.i64.bits = 64 := rfl; omega
  have h1 : (1 : Nat) * 2 ^ r ≤ 2 ^ 15 := by rw [Nat.one_mul]; exact Nat.pow_le_pow_right (by omega) (by omega)
  have h2 : ((2 : Int) ^ r) = ((2 ^ r : Nat) : Int) := by simp
  have e2 : IntKind.i64.wrap ((1 : Int) * 2 ^ r) = ((2 ^ r : Nat) : Int) := by
    rw [Int.one_mul, h2]
    exact IntWalk.i64_in _ ⟨by omega, by omega⟩
  rw [Int.one_mul] at e2
  simp [e2]
theorem mk_bd {N : Nat} (h : N ≤ 700) : 8 * N ≤ 281474976710656 ∧ N ≤ 9223372036854775807 := by omega
theorem two_way (n : Nat) (hn : n ≤ 10000) : ∃ q r P N : Nat, n / 15 = q ∧ 2 ^ (n % 15) = P ∧ N = q + 1 ∧ q < N ∧ N ≤ 700 ∧ P < 32768 ∧ (n : Int).tdiv 15 = (q : Int) ∧ (n : Int).tmod 15 = (r : Int) ∧ IntKind.i64.wrap ((q : Int) + 1) = (N : Int) ∧ wrap64 ((q : Int) + 1) = (N : Int) ∧
    IntKind.i64.wrap (q : Int) = (q : Int) ∧ wrap64 (q : Int) = (q : Int) ∧ IntKind.i64.wrap (r : Int) = (r : Int) ∧ wrap64 (r : Int) = (r : Int) ∧ Op.shift .shl .i64 1 .i64 (r : Int) = pure (.int .i64 (P : Int)) ∧ ¬ (r : Int) < 0 := by
  have h2 := two_small n
  refine ⟨n / 15, n % 15, 2 ^ (n % 15), n / 15 + 1, rfl, rfl, rfl, by omega, by omega, h2, ?_, ?_, ?_, ?_, ?_, ?_, ?_, ?_, shl1 (Nat.mod_lt _ (by omega)) rfl, by omega⟩
  · rw [Int.tdiv_eq_ediv_of_nonneg (by omega)]; omega
  · rw [Int.tmod_eq_emod_of_nonneg (by omega)]; omega
  · rw [IntWalk.i64_in _ ⟨by omega, by omega⟩]; omega
  · unfold wrap64; omega
  · exact IntWalk.i64_in _ ⟨by omega, by omega⟩
  · unfold wrap64; omega
  · exact IntWalk.i64_in _ ⟨by omega, by omega⟩
  · unfold wrap64; omega
set_option maxRecDepth 100000 in
set_option maxHeartbeats 2000000 in
theorem ntwo_raw (n : Nat) (hn : n ≤ 10000) (w : World) : Calls Tryz.prog 74 #[.int .i64 (n : Int)] w fun e w' => ∃ x, e = .returned x ∧ IsNat w' x (2 ^ n) ∧ Ext w w' := by
  obtain ⟨q, r, P, N, e1, e2, e3, lN, bN, bP, t1, t2, t3, t4, t5, t6, t7, t8, t9, t10⟩ := two_way n hn
  have hmk := run_make_row' (P := Tryz.prog) 69 3 (.int .i64 0) 8 Tryz.underlying69 infoI rfl .i64 .i64 N (mk_bd bN).1 (mk_bd bN).2
  have j0 : (0 : Int) ≤ (q : Int) := Int.natCast_nonneg _
  have j1 : (q : Int) < (N : Int) := Int.ofNat_lt.2 lN
  have EP := Lib.hid (show putD 0 q P = 2 ^ n by unfold putD; simp [two_split n, e1, e2])
  have HC := Lib.hid (show Cn (2 ^ n) N by rw [e3, ← e1]; exact two_cn n)
  have BN := Lib.hid bN
  have LN := Lib.hid lN
  have BP := Lib.hid bP
  clear e1 e2 e3 lN bN bP hn
  go_enter Tryz.func74, Tryz.ntmps74
  go_upto_region 2 with (fail)
  have D0 := Lib.hid (Drow.start w N 3)
  generalize w.alloc (.cells (madeCells #[.int .i64 0] N) 3) = u at *
  have c0 := D0.out.cell q LN.out
  have f0 := D0.out.froz q
  clear hmk t3 t4 t5 t7
  go_wp2
  go_ret
  have D := D0.out.put LN.out BP.out
  rw [EP.out] at D
  exact ⟨_, rfl, nat_of_at2 D.at2 (Nat.le_refl _) HC.out (Nat.le_trans BN.out (by decide)) (fun h => by cases h), D.ext⟩
end Go.Proofs.YtogfiekbikechaaGreatDoor

namespace Go.Proofs.YtogfiekbikechaaGreatDoor
open Go.ChangeShapes Go.WideShapes Go.ChangeAt Go.RowKit

/-- A power of 2, not to be evaluated. -/
def tw (k : Nat) : Nat := 2 ^ k
theorem tw_eq (k : Nat) : tw k = 2 ^ k := rfl
theorem tw_pos (k : Nat) : 0 < tw k := Nat.pow_pos (by omega)
theorem ntwo_any (k : Nat) (hn : k ≤ 10000) (w : World) : Calls Tryz.prog 74 #[.int .i64 (k : Int)] w fun e w' => ∃ x, e = .returned x ∧ IsNat w' x (tw k) ∧ Ext w w' := ntwo_raw k hn w
theorem IsNat.shape {w : World} {v : Value} {n : Nat} (h : IsNat w v n) : ∃ a L c, v = .slice a L c := by
  obtain ⟨a, L, c, e, _⟩ := h.at2
  exact ⟨a, L, c, e⟩
set_option maxRecDepth 100000 in
set_option maxHeartbeats 2000000 in
theorem half_walk (r E0 : Int) (M D D1 X : Nat) (A : Ret 12 #[.int .i64 r] (.agg #[.int .i64 (M : Int), .int .i64 E0])) (hr : (r == 0) = false) (_hr' : ¬ r = 0)
    (_d1 : wrap64 (2 * (M : Int)) = (D : Int)) (_d2 : wrap64 ((D : Int) + 1) = (D1 : Int)) (_e1 : wrap64 (E0 + 150) = (X : Int)) (d3 : IntKind.i64.wrap (2 * (M : Int)) = (D : Int)) (d4 : IntKind.i64.wrap ((D : Int) + 1) = (D1 : Int)) (e3 : IntKind.i64.wrap (E0 + 150) = (X : Int))
    (hD : D1 < 9223372036854775808) (hX : X ≤ 10000) (hf : Fits (D1 * tw X)) (w : World) :
    Calls Tryz.prog 75 #[.int .i64 r] w fun e w' => ∃ x, e = .returned x ∧ IsNat w' x (D1 * tw X) ∧ Ext w w' := by
  have HD := Lib.hid hD
  have HX := Lib.hid hX
  have HF := Lib.hid hf
  clear hD hX hf
  go_enter Tryz.func75, Tryz.ntmps75
  go_wp2_with fail
  refine (A _).mono ?_
  rintro e w1 ⟨rfl, hx⟩
  have X1 := Lib.hid (hx.alloc (.cells #[.int .i64 (M : Int), .int .i64 E0] 23))
  clear hx
  go_wp2_with fail
  refine (small_nat D1 HD.out _).mono ?_
  rintro e w2 ⟨v, rfl, hv, hx⟩
  have V1 := Lib.hid hv
  have X2 := Lib.hid (X1.out.trans hx)
  clear hx hv X1
  go_wp2_with fail
  refine (ntwo_any X HX.out _).mono ?_
  rintro e w3 ⟨v2, rfl, hv, hx⟩
  have V2 := Lib.hid hv
  have V3 := Lib.hid (V1.out.later hx)
  have X3 := Lib.hid (X2.out.trans hx)
  clear hx hv X2 V1
  go_wp2_with fail
  refine (nmul_any V3.out V2.out HF.out).mono ?_
  rintro e w4 ⟨v3, rfl, hv, hx⟩
  have V4 := Lib.hid hv
  have X4 := Lib.hid (X3.out.trans hx)
  clear hx hv X3 V3 V2
  go_wp2
  go_ret
  exact ⟨_, rfl, V4.out, X4.out⟩
set_option maxRecDepth 100000 in
set_option maxHeartbeats 2000000 in
theorem half_zero (A : Ret 12 #[.int .i64 0] (.agg #[.int .i64 0, .int .i64 0])) (hf : Fits (1 * tw 0)) (w : World) :
    Calls Tryz.prog 75 #[.int .i64 0] w fun e w' => ∃ x, e = .returned x ∧ IsNat w' x (1 * tw 0) ∧ Ext w w' := by
  have HF := Lib.hid hf
  clear hf
  have S1 := Lib.hid (small_nat 1 (by omega))
  have S2 := Lib.hid (ntwo_any 0 (by omega))
  rw [show ((1 : Nat) : Int) = 1 from rfl] at S1
  rw [show ((0 : Nat) : Int) = 0 from rfl] at S2
  go_enter Tryz.func75, Tryz.ntmps75
  go_wp2_with fail
  refine (A _).mono ?_
  rintro e w1 ⟨rfl, hx⟩
  have X1 := Lib.hid (hx.alloc (.cells #[.int .i64 0, .int .i64 0] 23))
  clear hx
  go_wp2_with fail
  refine (S1.out _).mono ?_
  rintro e w2 ⟨v, rfl, hv, hx⟩
  have V1 := Lib.hid hv
  have X2 := Lib.hid (X1.out.trans hx)
  clear hx hv X1
  go_wp2_with fail
  refine (S2.out _).mono ?_
  rintro e w3 ⟨v2, rfl, hv, hx⟩
  have V2 := Lib.hid hv
  have V3 := Lib.hid (V1.out.later hx)
  have X3 := Lib.hid (X2.out.trans hx)
  clear hx hv X2 V1
  go_wp2_with fail
  refine (nmul_any V3.out V2.out HF.out).mono ?_
  rintro e w4 ⟨v3, rfl, hv, hx⟩
  have V4 := Lib.hid hv
  have X4 := Lib.hid (X3.out.trans hx)
  clear hx hv X3 V3 V2
  go_wp2
  go_ret
  exact ⟨_, rfl, V4.out, X4.out⟩
theorem fits_mid {r : Nat} (h : r ≤ 2533359616) : Fits (midN r) := by
  obtain ⟨K, h1, h2⟩ : ∃ K, 327 ≤ K ∧ K ≤ 100000 := ⟨1000, by omega, by omega⟩
  exact fits_of (mid_bd h h1) h2
theorem half_any {r : Nat} (h : r ≤ 2533359615) (w : World) : Calls Tryz.prog 75 #[.int .i64 (r : Int)] w fun e w' => ∃ x, e = .returned x ∧ IsNat w' x (midN r) ∧ Ext w w' := by
  obtain ⟨M, X, he, hM, hX, bM, bX, _⟩ := at_parts h
  have A := @rat_any (r : Int) (by omega) (by omega)
  rw [he] at A
  have e : midN r = (2 * M + 1) * tw X := by unfold midN tw; rw [hM, hX]
  have hf : Fits ((2 * M + 1) * tw X) := by rw [← e]; exact fits_mid (by omega)
  rw [e]
  by_cases h0 : r = 0
  · subst h0
    obtain rfl : M = 0 := by rw [hM]; decide
    obtain rfl : X = 0 := by rw [hX]; decide
    exact half_zero A hf w
  · rw [if_neg h0] at A
    exact half_walk r _ M (2 * M) (2 * M + 1) X A (by simpa using h0) (by omega) (by unfold wrap64; omega) (by unfold wrap64; omega) (by unfold wrap64; omega) (by rw [IntWalk.i64_in _ ⟨by omega, by omega⟩]; omega) (by rw [IntWalk.i64_in _ ⟨by omega, by omega⟩]; omega) (by rw [IntWalk.i64_in _ ⟨by omega, by omega⟩]; omega)
      (by omega) (by omega) hf w

end Go.Proofs.YtogfiekbikechaaGreatDoor
