/- Layer 2: the reference's Print gives the program's text. -/
import Derived.Test.YtogfiekbikechaaGreatDoorQk
import Derived.Test.YtogfiekbikechaaGreatDoorGq
namespace Go.Proofs.YtogfiekbikechaaGreatDoor
open Go.ChangeShapes Go.WideShapes Go.ChangeAt Go.RowKit

theorem neg_ret {m x : Int} (h : Vd m x) : Ret 25 #[.agg #[.int .i64 m, .int .i64 x]] (.agg #[.int .i64 (-m), .int .i64 x]) := fun w => by
  have h1 := h.1
  exact rneg_any m x (-m) (IntWalk.i64_in _ ⟨by omega, by omega⟩) (by unfold wrap64; omega) (by rw [Int.zero_sub]; exact IntWalk.i64_in _ ⟨by omega, by omega⟩) (by unfold wrap64; omega) w
theorem bs_46 : (⟨#[46]⟩ : ByteArray) = bs [46] := rfl
theorem bs_48 : (⟨#[48]⟩ : ByteArray) = bs [48] := rfl
theorem bs_45 : (⟨#[45]⟩ : ByteArray) = bs [45] := rfl
theorem bs_101 : (⟨#[101]⟩ : ByteArray) = bs [101] := rfl
theorem bs_4846 : (⟨#[48, 46]⟩ : ByteArray) = bs [48, 46] := rfl
theorem bs_4648 : (⟨#[46, 48]⟩ : ByteArray) = bs [46, 48] := rfl
theorem prP_neg (m x : Int) : prP (-m) x = prP m x := by
  have e : ((-m).tmod 2 == 0) = (m.tmod 2 == 0) := by rw [Int.neg_tmod, Bool.eq_iff_iff, beq_iff_eq, beq_iff_eq]; omega
  unfold prP prD
  rw [e, Int.natAbs_neg]
theorem rprint_pos {m x : Int} (h : Vd m x) (hm : 0 < m) (w : World) :
    Calls Tryz.prog 48 #[.agg #[.int .i64 m, .int .i64 x]] w fun e w' => e = .returned (.string (bs (layoutV (prP m x).1 (prP m x).2))) ∧ Ext w w' := by
  have m0 : m ≠ 0 := by omega
  obtain ⟨⟨t, g, u, v, Dg⟩, _⟩ := digs_of h m0
  obtain ⟨d, k, e0, _, a2, a3, a4, a5, _, _⟩ := prP_of Dg
  obtain ⟨D, K, hS, hD, hD1, htx, hk, hK1, hK2⟩ := shortest_ref h hm
  rw [e0] at htx hk ⊢
  simp only at htx hk ⊢
  have hT := text_any 12 D (by omega) (by omega) (by omega) (by omega)
  rw [htx] at hT
  rw [← refL_eq a2 (by omega) (by omega)]
  have hl := List.length_pos_iff.2 a2
  have sz : (bs d).size = d.length := rfl
  have h0 : ¬ m < 0 := by omega
  have h1 : (m == 0) = false := by simp; omega
  have s1 : 1 ≤ (bs d).size := by rw [sz]; omega
  have s2 : (bs d).size ≤ 100 := by rw [sz]; omega
  have k1 : IntKind.i64.wrap (K + ((bs d).size : Int)) = k := by rw [sz, IntWalk.i64_in _ ⟨by omega, by omega⟩]; exact hk
  have k2 : wrap64 (K + ((bs d).size : Int)) = k := by rw [sz]; unfold wrap64; omega
  have e01 : (bs d).extract 0 1 = bs (d.take 1) := by rw [bs_extract]; simp
  have e1n : (bs d).extract 1 (bs d).size = bs (d.drop 1) := by rw [bs_extract, sz]; congr 1; rw [List.take_of_length_le (by simp)]
  have hdl : (bs (d.drop 1)).size ≤ 100 := by rw [bs_size, List.length_drop]; omega
  have w1 : IntKind.i64.wrap (k - 1) = k - 1 := IntWalk.i64_in _ ⟨by omega, by omega⟩
  have w2 : IntKind.i64.wrap (1 - k) = 1 - k := IntWalk.i64_in _ ⟨by omega, by omega⟩
  have HE : ∀ M : Nat, M ≤ 200 → (∀ w, Calls Tryz.prog 92 #[.int .i64 (M : Int)] w fun e w' => e = .returned (.string (bs (decL 12 M))) ∧ Ext w w') ∧ (bs (decL 12 M)).size ≤ 100 := fun M hM =>
    ⟨text_any 12 M (by omega) (by omega) (by omega) (by omega), by rw [bs_size]; have := decL_len 12 M; omega⟩
  have HZ : ∀ n : Nat, n ≤ 200 → (∀ w, Calls Tryz.prog 93 #[.int .i64 (n : Int)] w fun e w' => e = .returned (.string (bs (List.replicate n 48))) ∧ Ext w w') ∧ (bs (List.replicate n 48)).size ≤ 300 := fun n hn =>
    ⟨zeros_any n hn, by rw [bs_size, List.length_replicate]; omega⟩
  unfold refL
  by_cases c1 : k < -3 ∨ k > 9
  · rw [if_pos c1]
    obtain ⟨M, hM⟩ : ∃ M : Nat, max (k - 1) (1 - k) = (M : Int) := ⟨(max (k - 1) (1 - k)).toNat, by omega⟩
    obtain ⟨E1, E2⟩ := HE M (by omega)
    rw [hM, Int.toNat_natCast]
    by_cases c2 : d.drop 1 = []
    · rw [if_pos c2]
      have r1 : (bs (d.drop 1)).toList = [] := by rw [bs_toList]; exact c2
      have r2 : (bs (d.drop 1)).toList.isEmpty = true := by rw [r1]; rfl
      by_cases c3 : k < -3
      · have := rprint_low1 m x K k D (bs d) _ (M : Int) _ h0 h1 m0 hS hT s1 s2 k1 k2 (by omega) (by omega) c3 e1n hdl hM w1 w2 E1 E2 r1 r2 (by omega) w
        rw [e01, bs_46, bs_48, bs_45, bs_101, bs_append, bs_append, bs_append, bs_append, bs_append] at this
        rw [if_pos (show k - 1 < 0 by omega)]
        exact this
      · have := rprint_high1 m x K k D (bs d) _ (M : Int) _ h0 h1 m0 hS hT s1 s2 k1 k2 (by omega) (by omega) c3 (by omega) e1n hdl hM w1 w2 E1 E2 r1 r2 (by omega) w
        rw [e01, bs_46, bs_48, bs_101, bs_append, bs_append, bs_append, bs_append] at this
        rw [if_neg (show ¬ k - 1 < 0 by omega), List.nil_append]
        exact this
    · rw [if_neg c2]
      have r1 : ¬ (bs (d.drop 1)).toList = [] := by rw [bs_toList]; exact c2
      have r2 : (bs (d.drop 1)).toList.isEmpty = false := by rw [bs_toList]; cases hh : d.drop 1 with | nil => exact absurd hh c2 | cons a b => rfl
      by_cases c3 : k < -3
      · have := rprint_low2 m x K k D (bs d) _ (M : Int) _ h0 h1 m0 hS hT s1 s2 k1 k2 (by omega) (by omega) c3 e1n hdl hM w1 w2 E1 E2 r1 r2 (by omega) w
        rw [e01, bs_46, bs_45, bs_101, bs_append, bs_append, bs_append, bs_append, bs_append] at this
        rw [if_pos (show k - 1 < 0 by omega)]
        exact this
      · have := rprint_high2 m x K k D (bs d) _ (M : Int) _ h0 h1 m0 hS hT s1 s2 k1 k2 (by omega) (by omega) c3 (by omega) e1n hdl hM w1 w2 E1 E2 r1 r2 (by omega) w
        rw [e01, bs_46, bs_101, bs_append, bs_append, bs_append, bs_append] at this
        rw [if_neg (show ¬ k - 1 < 0 by omega), List.nil_append]
        exact this
  · rw [if_neg c1]
    by_cases c2 : k < 1
    · rw [if_pos c2]
      obtain ⟨n, hn⟩ : ∃ n : Nat, -k = (n : Int) := ⟨(-k).toNat, by omega⟩
      obtain ⟨Z1, Z2⟩ := HZ n (by omega)
      rw [← hn] at Z1
      rw [hn, Int.toNat_natCast]
      have := rprint_small m x K k D (bs d) _ h0 h1 m0 hS hT s1 s2 k1 k2 (by omega) (by omega) (by omega) (by omega) c2 (by rw [IntWalk.i64_in _ ⟨by omega, by omega⟩]; omega) (by unfold wrap64; omega) Z1 Z2 w
      rw [bs_4846, bs_append, bs_append] at this
      exact this
    · rw [if_neg c2]
      by_cases c3 : (d.length : Int) ≤ k
      · rw [if_pos c3]
        obtain ⟨n, hn⟩ : ∃ n : Nat, k - (d.length : Int) = (n : Int) := ⟨(k - (d.length : Int)).toNat, by omega⟩
        obtain ⟨Z1, Z2⟩ := HZ n (by omega)
        rw [hn, Int.toNat_natCast]
        have := rprint_int m x K k D (bs d) _ (n : Int) h0 h1 m0 hS hT s1 s2 k1 k2 (by omega) (by omega) (by omega) (by omega) c2 (by rw [sz]; exact c3) (by rw [sz, IntWalk.i64_in _ ⟨by omega, by omega⟩]; exact hn) (by rw [sz]; unfold wrap64; omega) Z1 Z2 w
        rw [bs_4648, bs_append, bs_append] at this
        exact this
      · rw [if_neg c3]
        obtain ⟨n, hn⟩ : ∃ n : Nat, k = (n : Int) := ⟨k.toNat, by omega⟩
        have := rprint_mid m x K k D (bs d) n h0 h1 m0 hS hT s1 s2 k1 k2 (by omega) (by omega) hn (by omega) (by omega) (by omega) (by rw [sz]; omega) (by rw [sz]; omega) w
        have f1 : (bs d).extract 0 n = bs (d.take n) := by rw [bs_extract]; simp
        have f2 : (bs d).extract n (bs d).size = bs (d.drop n) := by rw [bs_extract, sz]; congr 1; rw [List.take_of_length_le (by simp)]
        rw [f1, f2, bs_46, bs_append, bs_append] at this
        rw [hn, Int.toNat_natCast]
        exact this
/-- The text of a valid real. -/
def printT (m x : Int) : List UInt8 := if m = 0 then [48, 46, 48] else printV m x
theorem rprint_ref {m x : Int} (h : Vd m x) : Ret 48 #[.agg #[.int .i64 m, .int .i64 x]] (.string (bs (printT m x))) := by
  unfold printT
  by_cases m0 : m = 0
  · subst m0
    rw [if_pos rfl]
    exact fun w => rprint_zero x w
  · rw [if_neg m0]
    unfold printV
    simp only
    by_cases hm : m < 0
    · rw [if_pos hm]
      have hv : Vd (-m) x := by
        obtain ⟨a, b, c, d, e⟩ := h
        exact ⟨by omega, b, c, by omega, by omega⟩
      have hp := fun w => rprint_pos hv (by omega) w
      rw [prP_neg] at hp
      obtain ⟨⟨t, g, u, v, Dg⟩, _⟩ := digs_of h m0
      obtain ⟨d, k, e0, _, a2, a3, a4, a5, _, _⟩ := prP_of Dg
      have hs : (bs (layoutV (prP m x).1 (prP m x).2)).size ≤ 1000 := by
        rw [bs_size, e0]
        have := layout_len d k (by omega) (by omega) (by omega)
        simp only; omega
      intro w
      have := rprint_neg m x (-m) _ hm hs (neg_ret h) hp w
      rw [bs_45, bs_append] at this
      exact this
    · rw [if_neg hm]
      exact fun w => rprint_pos h (by omega) w
end Go.Proofs.YtogfiekbikechaaGreatDoor
