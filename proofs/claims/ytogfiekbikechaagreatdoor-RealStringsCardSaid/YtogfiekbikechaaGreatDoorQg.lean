/- Layer 2: the reference's search for the place of the first digit, and for the greatest decimal that is not above a number. -/
import Derived.Test.YtogfiekbikechaaGreatDoorQf
namespace Go.Proofs.YtogfiekbikechaaGreatDoor
open Go.ChangeShapes Go.WideShapes Go.ChangeAt Go.RowKit

theorem Qv.cells {w : World} {v : Value} {b : Bool} {n d : Nat} (h : Qv w v b n d) : ∃ a1 L1 C1 a2 L2 C2, v = .agg #[.bool b, .slice a1 L1 C1, .slice a2 L2 C2] := by
  obtain ⟨a1, L1, C1, a2, L2, C2, e, _⟩ := h.is
  exact ⟨a1, L1, C1, a2, L2, C2, e⟩
theorem sc_next {k top : Int} (h1 : -60 ≤ k) (h2 : k < top) (h3 : top ≤ 100) : IntKind.i64.wrap (k + 1) = k + 1 ∧ wrap64 (k + 1) = k + 1 ∧ (top - (k + 1)).toNat < (top - k).toNat :=
  ⟨IntWalk.i64_in _ ⟨by omega, by omega⟩, by unfold wrap64; omega, by omega⟩
set_option maxRecDepth 100000 in
set_option maxHeartbeats 4000000 in
theorem scale_walk (n d : Nat) (b : Bool) (v : Value) (top : Int) (w : World) (hv : Qv w v b n d) (ht1 : -50 ≤ top) (ht2 : top ≤ 100)
    (AM : ∀ k : Int, -60 ≤ k → k ≤ top → ∀ u, Ext w u → Calls Tryz.prog 145 #[.agg #[.int .i64 10, .int .i64 k], v] u fun e w' => e = .returned (.bool (decide (k < top))) ∧ Ext u w') :
    Calls Tryz.prog 118 #[v] w fun e w' => e = .returned (.int .i64 top) ∧ Ext w w' := by
  have HAM := Lib.hid AM
  clear AM
  obtain ⟨a1, L1, C1, a2, L2, C2, rfl⟩ := hv.cells
  clear hv
  have HT1 := Lib.hid ht1; have HT2 := Lib.hid ht2
  clear ht1 ht2
  go_enter Tryz.func118, Tryz.ntmps118
  go_upto_region 1 with (fail)
  have X0 : Hid (Ext w (w.alloc (.cells #[.bool b, .slice a1 L1 C1, .slice a2 L2 C2] 73))) := Lib.hid ((Ext.refl w).alloc _)
  have QB : Hid (Qb (w.alloc (.cells #[.bool b, .slice a1 L1 C1, .slice a2 L2 C2] 73)) w.heap.size b (.slice a1 L1 C1) (.slice a2 L2 C2)) := Lib.hid ⟨by simp [go_sem], by simp [go_sem], by simp [go_sem], by simp [go_sem]⟩
  generalize w.alloc (.cells #[.bool b, .slice a1 L1 C1, .slice a2 L2 C2] 73) = W1 at *
  go_wp2
  go_loopw [3] (fun a u => ∃ (u2 : World) (k : Int), u2 = u ∧ a = .int .i64 k ∧ Hid (-50 ≤ k ∧ k ≤ top) ∧ Hid (Ext W1 u2)) (fun a _ => (top - intOf a).toNat)
  case atStart => exact ⟨_, -50, rfl, rfl, Lib.hid ⟨by omega, HT1.out⟩, Lib.hid (Ext.refl _)⟩
  case round =>
    obtain ⟨u, k, hu, rfl, HK, XU⟩ := hrel
    subst hu
    have q0 := (QB.out.later XU.out).c0; have q1 := (QB.out.later XU.out).c1; have q2 := (QB.out.later XU.out).c2
    have C1 := Lib.hid (HAM.out k (by have := HK.out; omega) HK.out.2 u (X0.out.trans XU.out))
    have XA := Lib.hid (X0.out.trans XU.out)
    by_cases hlt : k < top
    · have C2 := C1.out
      rw [decide_eq_true hlt] at C2
      have C3 := Lib.hid C2
      obtain ⟨f1, f2, f3⟩ := sc_next (by have := HK.out; omega) hlt HT2.out
      have M := Lib.hid f3
      have HK2 : Hid (-50 ≤ k + 1 ∧ k + 1 ≤ top) := Lib.hid (by have := HK.out; omega)
      clear C1 C2 hlt f3 HK
      go_wp2_with fail
      refine C3.out.mono ?_
      rintro e w3 ⟨rfl, hx⟩
      have XV := Lib.hid (XU.out.trans hx)
      clear hx q0 q1 q2
      go_wp2
      go_roundw
      case rel => exact ⟨_, k + 1, rfl, by first | rfl | go_num, HK2, XV⟩
      case measure => first | exact M.out | (simp [intOf]; have := M.out; omega)
    · have C2 := C1.out
      rw [decide_eq_false hlt] at C2
      have C3 := Lib.hid C2
      have e : k = top := by have := HK.out; omega
      subst e
      clear C1 C2 hlt HK
      go_wp2_with fail
      refine C3.out.mono ?_
      rintro e w3 ⟨rfl, hx⟩
      have XV := Lib.hid (XA.out.trans hx)
      clear hx q0 q1 q2
      go_wp2
      go_ret
      exact ⟨rfl, XV.out⟩
/-- The middle, rounded up. -/
theorem mid_up {lo hi : Nat} (h : lo < hi) (ht : hi ≤ 1099511627776) : ∃ S T m : Nat, (lo + hi + 1) / 2 = m ∧ lo < m ∧ m ≤ hi ∧ IntKind.i64.wrap ((lo : Int) + hi) = (S : Int) ∧ wrap64 ((lo : Int) + hi) = (S : Int) ∧ IntKind.i64.wrap ((S : Int) + 1) = (T : Int) ∧ wrap64 ((S : Int) + 1) = (T : Int) ∧
    (T : Int).tdiv 2 = (m : Int) ∧ wrap64 (m : Int) = (m : Int) ∧ IntKind.i64.wrap (m : Int) = (m : Int) ∧ IntKind.i64.wrap ((m : Int) - 1) = ((m - 1 : Nat) : Int) ∧ wrap64 ((m : Int) - 1) = ((m - 1 : Nat) : Int) := by
  refine ⟨lo + hi, lo + hi + 1, (lo + hi + 1) / 2, rfl, by omega, by omega, ?_, ?_, ?_, ?_, ?_, ?_, ?_, ?_, ?_⟩
  · rw [IntWalk.i64_in _ ⟨by omega, by omega⟩]; omega
  · unfold wrap64; omega
  · rw [IntWalk.i64_in _ ⟨by omega, by omega⟩]; omega
  · unfold wrap64; omega
  · rw [Int.tdiv_eq_ediv_of_nonneg (by omega)]; omega
  · unfold wrap64; omega
  · exact IntWalk.i64_in _ ⟨by omega, by omega⟩
  · rw [IntWalk.i64_in _ ⟨by omega, by omega⟩]; omega
  · unfold wrap64; omega
theorem up_lo {lo hi m : Nat} (h : m ≤ hi) (h2 : lo < m) : ((hi : Int) - (m : Int)).toNat < ((hi : Int) - (lo : Int)).toNat := by omega
theorem up_hi {lo hi m : Nat} (h : m ≤ hi) (h2 : lo < m) : (((m - 1 : Nat) : Int) - (lo : Int)).toNat < ((hi : Int) - (lo : Int)).toNat := by omega
theorem below_m {lo hi m P : Nat} (h : lo ≤ P ∧ P ≤ hi ∧ hi ≤ 1099511627776) (c : m ≤ hi) : m ≤ 1099511627776 := by omega
theorem below_yes {lo hi m P : Nat} (h : lo ≤ P ∧ P ≤ hi ∧ hi ≤ 1099511627776) (c : m ≤ P) : m ≤ P ∧ P ≤ hi ∧ hi ≤ 1099511627776 := by omega
theorem below_no {lo hi m P : Nat} (h : lo ≤ P ∧ P ≤ hi ∧ hi ≤ 1099511627776) (l : m ≤ hi) (c : ¬ m ≤ P) : lo ≤ P ∧ P ≤ m - 1 ∧ m - 1 ≤ 1099511627776 := by omega
set_option maxRecDepth 100000 in
set_option maxHeartbeats 4000000 in
theorem below_walk (n d P : Nat) (b : Bool) (v : Value) (k : Int) (w : World) (hv : Qv w v b n d) (hP : P ≤ 1099511627776)
    (AM : ∀ D : Nat, D ≤ 1099511627776 → ∀ u, Ext w u → Calls Tryz.prog 145 #[.agg #[.int .i64 (D : Int), .int .i64 k], v] u fun e w' => e = .returned (.bool (decide (D ≤ P))) ∧ Ext u w') :
    Calls Tryz.prog 119 #[v, .int .i64 k] w fun e w' => e = .returned (.int .i64 (P : Int)) ∧ Ext w w' := by
  have HAM := Lib.hid AM
  have HPP := Lib.hid hP
  clear AM hP
  obtain ⟨a1, L1, C1, a2, L2, C2, rfl⟩ := hv.cells
  clear hv
  go_enter Tryz.func119, Tryz.ntmps119
  go_upto_region 1 with (fail)
  have X0 : Hid (Ext w (w.alloc (.cells #[.bool b, .slice a1 L1 C1, .slice a2 L2 C2] 73))) := Lib.hid ((Ext.refl w).alloc _)
  have QB : Hid (Qb (w.alloc (.cells #[.bool b, .slice a1 L1 C1, .slice a2 L2 C2] 73)) w.heap.size b (.slice a1 L1 C1) (.slice a2 L2 C2)) := Lib.hid ⟨by simp [go_sem], by simp [go_sem], by simp [go_sem], by simp [go_sem]⟩
  generalize w.alloc (.cells #[.bool b, .slice a1 L1 C1, .slice a2 L2 C2] 73) = W1 at *
  go_wp2
  go_loopw [5, 6] (fun x y u => ∃ (u2 : World) (lo hi : Nat), u2 = u ∧ x = .int .i64 (lo : Int) ∧ y = .int .i64 (hi : Int) ∧ Hid (lo ≤ P ∧ P ≤ hi ∧ hi ≤ 1099511627776) ∧ Hid (Ext W1 u2)) (fun x y _ => (intOf y - intOf x).toNat)
  case atStart => exact ⟨_, 0, 1099511627776, rfl, rfl, rfl, Lib.hid ⟨Nat.zero_le _, HPP.out, Nat.le_refl _⟩, Lib.hid (Ext.refl _)⟩
  case round =>
    obtain ⟨u, lo, hi, hu, rfl, rfl, HK, XU⟩ := hrel
    subst hu
    have XA := Lib.hid (X0.out.trans XU.out)
    by_cases hlt : lo < hi
    · have q0 := (QB.out.later XU.out).c0; have q1 := (QB.out.later XU.out).c1; have q2 := (QB.out.later XU.out).c2
      have g1 : (lo : Int) < (hi : Int) := Int.ofNat_lt.2 hlt
      obtain ⟨S, T, m, hm, l1, l2, t1, t2, t3, t4, t5, t6, t7, t8, t9⟩ := mid_up hlt HK.out.2.2
      have M1 := Lib.hid (up_lo l2 l1)
      have M2 := Lib.hid (up_hi l2 l1)
      have C1 := HAM.out m (below_m HK.out l2) u XA.out
      by_cases hle : m ≤ P
      · rw [decide_eq_true hle] at C1
        have C3 := Lib.hid C1
        have HK2 : Hid (m ≤ P ∧ P ≤ hi ∧ hi ≤ 1099511627776) := Lib.hid (below_yes HK.out hle)
        clear C1 HK hlt hm l1 l2 hle
        go_wp2_with fail
        refine C3.out.mono ?_
        rintro e w3 ⟨rfl, hx⟩
        have XV := Lib.hid (XU.out.trans hx)
        clear hx q0 q1 q2
        go_wp2
        go_roundw
        case rel => exact ⟨_, m, hi, rfl, rfl, rfl, HK2, XV⟩
        case measure => exact M1.out
      · rw [decide_eq_false hle] at C1
        have C3 := Lib.hid C1
        have HK2 : Hid (lo ≤ P ∧ P ≤ m - 1 ∧ m - 1 ≤ 1099511627776) := Lib.hid (below_no HK.out l2 hle)
        clear C1 HK hlt hm l1 l2 hle
        go_wp2_with fail
        refine C3.out.mono ?_
        rintro e w3 ⟨rfl, hx⟩
        have XV := Lib.hid (XU.out.trans hx)
        clear hx q0 q1 q2
        go_wp2
        go_roundw
        case rel => exact ⟨_, lo, m - 1, rfl, rfl, by first | rfl | go_num, HK2, XV⟩
        case measure => exact M2.out
    · have e : lo = hi := by have := HK.out; omega
      subst e
      have e2 : lo = P := by have := HK.out; omega
      subst e2
      have g1 : ¬ (lo : Int) < (lo : Int) := Int.lt_irrefl _
      clear hlt HK
      go_wp2
      go_ret
      exact ⟨rfl, XA.out⟩
theorem scale_any {n d : Nat} {b : Bool} {v : Value} {top : Int} {w : World} (hv : Qv w v b n d) (hs : Szs n d) (ht1 : -50 ≤ top) (ht2 : top ≤ 100) (h : ∀ k : Int, 10 * tenU k * d ≤ n * tenD k ↔ k < top) :
    Calls Tryz.prog 118 #[v] w fun e w' => e = .returned (.int .i64 top) ∧ Ext w w' :=
  scale_walk n d b v top w hv ht1 ht2 fun k h1 h2 u hx => by
    have := am_any (D := 10) (K := k) (hv.later hx) hs (by omega) (by omega) (by omega)
    rw [show ((10 : Nat) : Int) = 10 from rfl, decide_eq_decide.2 (h k)] at this
    exact this
theorem below_any {n d P : Nat} {b : Bool} {v : Value} {k : Int} {w : World} (hv : Qv w v b n d) (hs : Szs n d) (hP : P ≤ 1099511627776) (h1 : -500 ≤ k) (h2 : k ≤ 500) (h : ∀ D, D * tenU k * d ≤ n * tenD k ↔ D ≤ P) :
    Calls Tryz.prog 119 #[v, .int .i64 k] w fun e w' => e = .returned (.int .i64 (P : Int)) ∧ Ext w w' :=
  below_walk n d P b v k w hv hP fun D hD u hx => by
    have := am_any (D := D) (K := k) (hv.later hx) hs (by omega) h1 h2
    rw [decide_eq_decide.2 (h D)] at this
    exact this
end Go.Proofs.YtogfiekbikechaaGreatDoor
