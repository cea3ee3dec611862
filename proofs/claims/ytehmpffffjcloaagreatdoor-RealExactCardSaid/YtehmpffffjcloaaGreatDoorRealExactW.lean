/- The walk of RealExact. -/
import Derived.Test.YtehmpffffjcloaaGreatDoorTu
namespace Go.Proofs.YtehmpffffjcloaaGreatDoor.realExact
open Go.RowKit
theorem from_ret {n m x : Int} (h : n.natAbs ≤ 16777216) (e : (exV n 0).rd = some (m, x)) : Ret 20 #[.int .i64 n] (.agg #[.int .i64 m, .int .i64 x]) := fun w =>
  (fromInt_any n (by omega) (by omega) w).mono fun q w' ⟨k, hx⟩ => ⟨by rw [e] at k; exact k, hx⟩
theorem two_ret : Ret 20 #[.int .i64 2] (.agg #[.int .i64 8388608, .int .i64 (-22)]) := from_ret (by decide) (by decide +kernel)
theorem pow_ret {k : Int} (h1 : -42 ≤ k) (h2 : k ≤ 42) : Ret 46 #[.agg #[.int .i64 8388608, .int .i64 (-22)], .int .i64 k] (.tuple #[.agg #[.int .i64 (twoK k).1, .int .i64 (twoK k).2], .int .i64 0]) := fun w => by
  have h := Pow_good (m := 8388608) (x := -22) (n := k) (vd_iff.1 (by decide) : Vd 8388608 (-22)) (by omega) (by omega) (.inl (by decide)) w
  rw [pow_two h1 h2] at h
  exact h
theorem tmod_small (n : Int) (d : Int) (hd : 0 < d) : -d < n.tmod d ∧ n.tmod d < d := by
  rcases Int.lt_or_le n 0 with h | h
  · have := Int.tmod_lt_of_pos (-n) hd
    have h2 := Int.tmod_nonneg (a := -n) d (by omega)
    rw [Int.neg_tmod] at this h2
    omega
  · have := Int.tmod_lt_of_pos n hd
    have h2 := Int.tmod_nonneg (a := n) d h
    omega
theorem wr {n : Int} (h1 : -1000000000 ≤ n) (h2 : n ≤ 1000000000) : IntKind.i64.wrap n = n ∧ wrap64 n = n := ⟨IntWalk.i64_in _ ⟨by omega, by omega⟩, by unfold wrap64; omega⟩
/-- small of any two ints. -/
theorem small_any (i j M E : Int) (hM : i.tmod 4096 = M) (hE : j.tmod 21 = E) : ∃ m x, Sm M E m x ∧ Ret 59 #[.int .i64 i, .int .i64 j] (.agg #[.int .i64 m, .int .i64 x]) := by
  have b1 := tmod_small i 4096 (by omega)
  have b2 := tmod_small j 21 (by omega)
  rw [hM] at b1; rw [hE] at b2
  obtain ⟨a, b, c, d, e⟩ := from_int M (by omega)
  obtain ⟨m, x, h1, h2⟩ := small_ex (M := M) (E := E) (by omega) (by omega) (by omega) d e
  have MU : Ret 40 #[.agg #[.int .i64 a, .int .i64 b], .agg #[.int .i64 (twoK E).1, .int .i64 (twoK E).2]] _ := Mul_vd a b (twoK E).1 (twoK E).2
  rw [h1] at MU
  obtain ⟨w1, w2⟩ := wr (n := M) (by omega) (by omega)
  obtain ⟨w3, w4⟩ := wr (n := E) (by omega) (by omega)
  exact ⟨m, x, h2, fun w => small_w w i j M E a b _ _ m x hM w1 w2 hE w3 w4 (from_ret (by omega) c) two_ret (pow_ret (by omega) (by omega)) MU⟩
theorem walk (a0 : Int) (_ : (Lit.int .i64 a0).wf = true) (a1 : Int) (_ : (Lit.int .i64 a1).wf = true) (a2 : Int) (_ : (Lit.int .i64 a2).wf = true) (a3 : Int) (_ : (Lit.int .i64 a3).wf = true) (w : World) (ht : Tb w) :
    Calls Tryz.prog 11 #[.int .i64 a0, .int .i64 a1, .int .i64 a2, .int .i64 a3] w fun e w' => e = .returned (.bool true) ∧ Ext w w' := by
  obtain ⟨M, hM⟩ : ∃ M, a0.tmod 4096 = M := ⟨_, rfl⟩
  obtain ⟨E, hE⟩ : ∃ E, a1.tmod 21 = E := ⟨_, rfl⟩
  obtain ⟨N, hN⟩ : ∃ N, a2.tmod 4096 = N := ⟨_, rfl⟩
  obtain ⟨F, hF⟩ : ∃ F, a3.tmod 21 = F := ⟨_, rfl⟩
  have b1 := tmod_small a0 4096 (by omega)
  have b2 := tmod_small a1 21 (by omega)
  have b3 := tmod_small a2 4096 (by omega)
  have b4 := tmod_small a3 21 (by omega)
  rw [hM] at b1; rw [hE] at b2; rw [hN] at b3; rw [hF] at b4
  obtain ⟨xm, xx, X, S1⟩ := small_any a0 a1 M E hM hE
  obtain ⟨ym, yx, Y, S2⟩ := small_any a2 a3 N F hN hF
  have hMN : (M * N).natAbs ≤ 16769025 := by
    rw [Int.natAbs_mul]
    exact Nat.mul_le_mul (show M.natAbs ≤ 4095 by omega) (show N.natAbs ≤ 4095 by omega)
  obtain ⟨a, b, c, d, e⟩ := from_int (M * N) (by omega)
  obtain ⟨p, z, m1, m2, m3, m4⟩ := prod_ex (show M.natAbs ≤ 4095 by omega) (show N.natAbs ≤ 4095 by omega) (by omega) (by omega) (by omega) (by omega) X Y d e
  have MU : Ret 40 #[.agg #[.int .i64 xm, .int .i64 xx], .agg #[.int .i64 ym, .int .i64 yx]] _ := Mul_vd xm xx ym yx
  have MQ : Ret 40 #[.agg #[.int .i64 a, .int .i64 b], .agg #[.int .i64 (twoK (E + F)).1, .int .i64 (twoK (E + F)).2]] _ := Mul_vd a b (twoK (E + F)).1 (twoK (E + F)).2
  rw [m1] at MU; rw [m2] at MQ
  have FP := from_ret (n := M * N) (by omega) c
  have PO := pow_ret (k := E + F) (by omega) (by omega)
  obtain ⟨w1, w2⟩ := wr (n := M) (by omega) (by omega)
  obtain ⟨w3, w4⟩ := wr (n := E) (by omega) (by omega)
  obtain ⟨w5, w6⟩ := wr (n := N) (by omega) (by omega)
  obtain ⟨w7, w8⟩ := wr (n := F) (by omega) (by omega)
  obtain ⟨w9, w10⟩ := wr (n := E + F) (by omega) (by omega)
  obtain ⟨w11, w12⟩ := wr (n := M * N) (by omega) (by omega)
  by_cases hz : N = 0
  · subst hz
    obtain ⟨rfl, rfl⟩ := prod_zero m1 m3 m4
    rw [Int.mul_zero] at FP
    exact exact_zero w ht a0 a1 a2 a3 M E F (E + F) xm xx ym yx a b _ _ hM w1 w2 hE w3 w4 hN hF w7 w8 w9 w10 (wr (n := 0) (by omega) (by omega)).1 (wr (n := 0) (by omega) (by omega)).2 S1 S2 MU two_ret PO FP MQ sanity_any
  · obtain ⟨d1, d2⟩ := div_ex (by omega) (by omega) (by omega) (by omega) X Y hz m3 m4
    have DV : Ret 41 #[.agg #[.int .i64 p, .int .i64 z], .agg #[.int .i64 ym, .int .i64 yx]] _ := div_real p z ym yx
    rw [d1] at DV
    exact exact_some w ht a0 a1 a2 a3 M E N F (E + F) (M * N) xm xx ym yx a b _ _ p z hM w1 w2 hE w3 w4 hN w5 w6 (by simpa using hz) hz hF w7 w8 w9 w10 w11 w12 S1 S2 MU two_ret PO FP MQ DV sanity_any
end Go.Proofs.YtehmpffffjcloaaGreatDoor.realExact
