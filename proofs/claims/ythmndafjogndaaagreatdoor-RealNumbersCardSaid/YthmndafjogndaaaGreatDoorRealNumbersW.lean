/- The walk of RealNumbers, put together. -/
import Derived.Test.YthmndafjogndaaaGreatDoorVb
import Derived.Test.YthmndafjogndaaaGreatDoorVc
import Derived.Test.YthmndafjogndaaaGreatDoorVd
import Derived.Test.YthmndafjogndaaaGreatDoorVe
import Derived.Test.YthmndafjogndaaaGreatDoorVf
namespace Go.Proofs.YthmndafjogndaaaGreatDoor.realNumbers
open Go.RowKit

theorem expo_top : expoN 2533359615 = 300 := by decide
theorem mant_top : mantN 2533359615 = 16777215 := by decide
theorem from_room {P r : Nat} (h : P < midN 2533359615) (hn : Near P 1 r) : r ≤ 2533359615 := by
  rcases Nat.lt_or_ge 2533359615 r with g | g
  · exfalso
    have := mid_mono_le (show 2533359615 ≤ r - 1 by omega)
    rcases hn.2 with e | e | e <;> omega
  · exact g
theorem from_fit {N k : Nat} (h : N ≤ 9223372036854775808) (hk : k ≤ 200) : N * tw k < midN 2533359615 := by
  have e : midN 2533359615 = 33554431 * 2 ^ expoN 2533359615 := by unfold midN; rw [mant_top]
  rw [e]
  obtain ⟨E, hE⟩ : ∃ E, expoN 2533359615 = E := ⟨_, rfl⟩
  have hE2 : E = 300 := by rw [← hE]; exact expo_top
  rw [hE]
  have a1 : N < 2 ^ 64 := by omega
  have a2 : N * tw k < 2 ^ (64 + k) := by
    rw [Nat.pow_add]; exact Nat.mul_lt_mul_of_pos_right a1 (tw_pos k)
  have a3 : 2 ^ (64 + k) ≤ 2 ^ E := Nat.pow_le_pow_right (by omega) (by omega)
  have a4 : 2 ^ E ≤ 33554431 * 2 ^ E := Nat.le_mul_of_pos_left _ (by omega)
  exact Nat.lt_of_lt_of_le a2 (Nat.le_trans a3 a4)
theorem from_some {n : Int} (h1 : -9223372036854775808 ≤ n) (h2 : n ≤ 9223372036854775807) : ∃ p, (exV n 0).rd = some p := by
  obtain ⟨r, hr, hrd⟩ := ex_near n 0 (by omega) (by omega)
  have e1 : 2 * (sc n 0).natAbs = n.natAbs * tw 151 := by
    rw [sc_abs, show ((0 : Int) + 150).toNat = 150 from rfl, show (151 : Nat) = 150 + 1 from rfl, ← tw_add, show tw 1 = 2 from rfl, Nat.mul_comm 2, Nat.mul_assoc]; rfl
  rw [e1] at hr
  have hle := from_room (from_fit (by omega) (by omega)) hr
  exact ⟨_, by rw [hrd, resI_at hle]⟩
theorem from_both {n : Int} (h1 : -9223372036854775808 ≤ n) (h2 : n ≤ 9223372036854775807) : ∃ fm fx, Ret 13 #[.int .i64 n] (.agg #[.int .i64 fm, .int .i64 fx]) ∧ Ret 14 #[.int .i64 n] (.agg #[.int .i64 fm, .int .i64 fx]) := by
  obtain ⟨p, hp⟩ := from_some h1 h2
  refine ⟨p.1, p.2, fun w => ?_, ?_⟩
  · have := fromInt_any n h1 (by omega) w
    rw [hp] at this
    exact this
  · have := from_ref h1 h2
    rw [hp] at this
    exact this
theorem at_both (idx : Int) (h1 : -9223372036854775808 ≤ idx) (h2 : idx ≤ 9223372036854775807) : ∃ am ax ae, Ret 10 #[.int .i64 idx] (.tuple #[.agg #[.int .i64 am, .int .i64 ax], .int .i64 ae]) ∧ ((idx ≥ -2533359615 ∧ idx ≤ 2533359615 ∧ ae = 0 ∧ Ret 12 #[.int .i64 idx] (.agg #[.int .i64 am, .int .i64 ax])) ∨ (¬ idx ≥ -2533359615 ∧ am = 0 ∧ ax = 0 ∧ ae = 1) ∨ (idx ≥ -2533359615 ∧ ¬ idx ≤ 2533359615 ∧ am = 0 ∧ ax = 0 ∧ ae = 1)) := by
  by_cases g1 : idx < -2533359615
  · exact ⟨0, 0, 1, fun w => At_lo idx g1 w, .inr (.inl ⟨by omega, rfl, rfl, rfl⟩)⟩
  · by_cases g2 : idx > 2533359615
    · exact ⟨0, 0, 1, fun w => At_hi idx g1 g2 w, .inr (.inr ⟨by omega, by omega, rfl, rfl, rfl⟩)⟩
    · exact ⟨_, _, 0, fun w => At_in idx g1 g2 w, .inl ⟨by omega, by omega, rfl, rat_any (by omega) (by omega)⟩⟩
theorem walk (m x : Int) (wm : (Lit.int .i64 m).wf = true) (wx : (Lit.int .i64 x).wf = true) (n y : Int) (wn : (Lit.int .i64 n).wf = true) (wy : (Lit.int .i64 y).wf = true) (idx : Int) (wi : (Lit.int .i64 idx).wf = true) (k : Int) (wk : (Lit.int .i64 k).wf = true) (w : World) (ht : Tb w) :
    Calls Tryz.prog 3 #[.agg #[.int .i64 m, .int .i64 x], .agg #[.int .i64 n, .int .i64 y], .int .i64 idx, .int .i64 k] w fun e w' => e = .returned (.bool true) ∧ Ext w w' := by
  have VX := refvalid_any m x (bdI wm).1 (bdI wm).2
  have VY := refvalid_any n y (bdI wn).1 (bdI wn).2
  have VA : Ret 15 #[.agg #[.int .i64 m, .int .i64 x]] (.bool (validV m x)) := fun w => valid_any m x w
  obtain ⟨am, ax, ae, AT, hat⟩ := at_both idx (bdI wi).1 (bdI wi).2
  obtain ⟨fm, fx, FI, RFI⟩ := @from_both k (bdI wk).1 (bdI wk).2
  cases hv : validV m x with
  | false =>
    rw [hv] at VX VA
    exact bad_x w ht m x n y idx k am ax ae fm fx AT hat FI RFI VA VX (fun w => Index_bad m x w hv) (fun w => Next_bad m x w hv) (fun w => Neg_bad m x w hv) (fun w => Abs_bad m x w hv) (fun w => Sign_bad m x w hv) (fun w => Cmp_bad m x n y (by rw [hv]; rfl) w) sanity_any
  | true =>
    rw [hv] at VX VA
    have h := vd_iff.1 hv
    obtain ⟨p1, p2⟩ := place_bd h
    have RI := index_ref h
    have RN := neg_vd h
    have RS := rcompare_any m 0
    have hw : (m < 0 ∧ max m (-m) = -m) ∨ (¬ m < 0 ∧ max m (-m) = m) := by omega
    have IX : Ret 17 #[.agg #[.int .i64 m, .int .i64 x]] (.tuple #[.int .i64 (placeV m x), .int .i64 0]) := fun w => Index_good m x w hv
    have NG : Ret 19 #[.agg #[.int .i64 m, .int .i64 x]] (.tuple #[.agg #[.int .i64 (-m), .int .i64 x], .int .i64 0]) := fun w => Neg_good m x w hv
    have AB : Ret 20 #[.agg #[.int .i64 m, .int .i64 x]] (.tuple #[.agg #[.int .i64 (max m (-m)), .int .i64 x], .int .i64 0]) := fun w => Abs_good m x w hv
    have SG : Ret 21 #[.agg #[.int .i64 m, .int .i64 x]] (.tuple #[.int .i64 (cmpI m 0), .int .i64 0]) := fun w => Sign_good m x w hv
    have hpv : placeV m x = placeV m x := rfl
    cases hu : validV n y with
    | false =>
      rw [hu] at VY
      have CM : Ret 22 #[.agg #[.int .i64 m, .int .i64 x], .agg #[.int .i64 n, .int .i64 y]] (.tuple #[.int .i64 0, .int .i64 1]) := fun w => Cmp_bad m x n y (by rw [hv, hu]; rfl) w
      by_cases hi : placeV m x = 2533359615
      · have NX : Ret 18 #[.agg #[.int .i64 m, .int .i64 x]] (.tuple #[.agg #[.int .i64 0, .int .i64 0], .int .i64 3]) := fun w => Next_top m x _ hi (by decide) w hv
        rw [hi] at IX RI
        exact good_n_top w ht m x n y idx k am ax ae fm fx _ _ _ AT hat FI RFI VA VX VY IX NX NG AB SG CM RI RN RS hw sanity_any
      · have hib : (placeV m x == 2533359615) = false := by simpa using hi
        have NX : Ret 18 #[.agg #[.int .i64 m, .int .i64 x]] (.tuple #[.agg #[.int .i64 (atV (placeV m x + 1)).1, .int .i64 (atV (placeV m x + 1)).2], .int .i64 0]) := fun w => Next_good m x _ rfl hib (by omega) (by omega) w hv
        generalize placeV m x = i at *
        exact good_n_next w ht m x n y idx k am ax ae fm fx _ _ _ i (i + 1) _ _ AT hat FI RFI VA VX VY IX NX NG AB SG CM RI RN RS hw hib hi (IntWalk.i64_in _ ⟨by omega, by omega⟩) (by unfold wrap64; omega) (rat_any (by omega) (by omega)) sanity_any
    | true =>
      rw [hu] at VY
      have g := vd_iff.1 hu
      have CM : Ret 22 #[.agg #[.int .i64 m, .int .i64 x], .agg #[.int .i64 n, .int .i64 y]] (.tuple #[.int .i64 (cmpV m x n y), .int .i64 0]) := fun w => Cmp_vd h g w
      have RC := cmp_ref h g
      have ec : cmpV m x n y = cmpI (placeV m x) (placeV n y) := by
        unfold cmpV
        split
        · rename_i e; rw [e.1, e.2]; unfold cmpI; rw [if_neg (by omega), if_neg (by omega)]
        · rfl
      rw [ec] at CM
      by_cases hi : placeV m x = 2533359615
      · have NX : Ret 18 #[.agg #[.int .i64 m, .int .i64 x]] (.tuple #[.agg #[.int .i64 0, .int .i64 0], .int .i64 3]) := fun w => Next_top m x _ hi (by decide) w hv
        rw [hi] at IX RI
        exact good_y_top w ht m x n y idx k am ax ae fm fx _ _ _ _ AT hat FI RFI VA VX VY IX NX NG AB SG CM RI RN RS hw RC sanity_any
      · have hib : (placeV m x == 2533359615) = false := by simpa using hi
        have NX : Ret 18 #[.agg #[.int .i64 m, .int .i64 x]] (.tuple #[.agg #[.int .i64 (atV (placeV m x + 1)).1, .int .i64 (atV (placeV m x + 1)).2], .int .i64 0]) := fun w => Next_good m x _ rfl hib (by omega) (by omega) w hv
        clear ec
        generalize cmpI (placeV m x) (placeV n y) = c at *
        generalize placeV m x = i at *
        exact good_y_next w ht m x n y idx k am ax ae fm fx _ _ _ i (i + 1) _ _ c AT hat FI RFI VA VX VY IX NX NG AB SG CM RI RN RS hw RC hib hi (IntWalk.i64_in _ ⟨by omega, by omega⟩) (by unfold wrap64; omega) (rat_any (by omega) (by omega)) sanity_any
end Go.Proofs.YthmndafjogndaaaGreatDoor.realNumbers
