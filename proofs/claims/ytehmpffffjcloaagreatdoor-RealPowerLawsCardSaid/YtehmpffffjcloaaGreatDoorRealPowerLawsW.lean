/- The walk of RealPowerLaws. -/
import Derived.Test.YtehmpffffjcloaaGreatDoorTy
import Derived.Test.YtehmpffffjcloaaGreatDoorTx
namespace Go.Proofs.YtehmpffffjcloaaGreatDoor.realPowerLaws
open Go.RowKit
/-- What Pow returns. -/
def powE (m x n : Int) : (Int × Int) × Int := if m = 0 ∧ n < 0 then ((0, 0), 5) else (okV (powR m x n), okE (powR m x n))
theorem Pow_all {m x n : Int} (h : Vd m x) (h1 : -9223372036854775808 ≤ n) (h2 : n ≤ 9223372036854775807) : Ret 46 #[.agg #[.int .i64 m, .int .i64 x], .int .i64 n] (.tuple #[.agg #[.int .i64 (powE m x n).1.1, .int .i64 (powE m x n).1.2], .int .i64 (powE m x n).2]) := fun w => by
  unfold powE
  by_cases c : m = 0 ∧ n < 0
  · rw [if_pos c]
    obtain ⟨rfl, c2⟩ := c
    exact pow_none x n (vd_iff.2 h) c2 w
  · rw [if_neg c]
    refine Pow_good h h1 h2 ?_ w
    by_cases m0 : m = 0
    · exact .inr (fun q => c ⟨m0, q⟩)
    · exact .inl (by simpa using m0)
theorem powE_vd {m x n : Int} (h : Vd m x) : Vd (powE m x n).1.1 (powE m x n).1.2 := by
  unfold powE
  split
  · exact vd_zero
  · exact powR_vd h
theorem powE_even {m x n : Int} (h : Vd m x) (c : n % 2 = 0) : powE (-m) x n = powE m x n := by
  unfold powE
  have e : (-m = 0 ∧ n < 0) ↔ (m = 0 ∧ n < 0) := by omega
  simp only [e, powR_ng h, if_pos c]
theorem powE_odd {m x n : Int} (h : Vd m x) (c : ¬ n % 2 = 0) : powE (-m) x n = ((-(powE m x n).1.1, (powE m x n).1.2), (powE m x n).2) := by
  unfold powE
  have e : (-m = 0 ∧ n < 0) ↔ (m = 0 ∧ n < 0) := by omega
  simp only [e, powR_ng h, if_neg c]
  by_cases d : m = 0 ∧ n < 0
  · rw [if_pos d, if_pos d]; rfl
  · rw [if_neg d, if_neg d]
    obtain ⟨e1, e2, e3⟩ := ng_ok (powR m x n)
    exact Prod.ext (Prod.ext e2 e3) e1
/-- A square root is no greater than any real. -/
theorem sqrt_fit {m x : Int} (h : Vd m x) : (sqrtV m x).2 = 0 := by
  obtain ⟨r, a, b⟩ := sqrt_char h
  have e : sqrtV m x = resE false r := by unfold sqrtV resE; rw [b]
  rw [e]
  refine resE_ok.2 ?_
  have hm := h.1
  obtain ⟨s1, s2, s3⟩ := rootSh_bd x hm
  have hx := h.2.2.1
  have hsq : rootSq m.natAbs x < 18446744073709551616 := by
    by_cases e : m.natAbs = 0
    · rw [e, rootSq_zero]; omega
    · exact (rootSq_bd x e hm).2
  have hr : (rootV m x).man ≤ 4294967295 := sq_le (m := 18446744073709551615) (sq_spec hsq).1 (by omega) (by omega)
  have hE : ((rootV m x).exp + 151).toNat ≤ 207 := by
    unfold rootV; simp only; omega
  obtain ⟨s, hs⟩ := rep_index 8388608 217 (by omega)
  have sm : s ≤ 2533359615 := by
    rw [← ord_le_iff, ord_max, hs]
    have : ∀ j, 217 ≤ j → 8388608 * 2 ^ 217 ≤ 16777215 * 2 ^ j := fun j hj => Nat.mul_le_mul (by omega) (Nat.pow_le_pow_right (by omega) hj)
    exact this 300 (by omega)
  refine Nat.le_trans (near_mono (by omega) ?_ a (near_ord (D := 2) (by omega) s)) sm
  rw [hs]
  unfold rootQ
  have g1 : 2 ^ ((rootV m x).exp + 151).toNat ≤ 2 ^ 207 := Nat.pow_le_pow_right (by omega) hE
  have g2 : (2 * (rootV m x).man + if (rootV m x).more = true then 1 else 0) ≤ 8589934592 := by split <;> omega
  refine Nat.le_trans (Nat.mul_le_mul g2 g1) ?_
  decide +kernel
theorem sc_hun : sc 8388608 (-123) = 1125899906842624 := by decide +kernel
theorem vd_hun : Vd 8388608 (-123) := vd_iff.1 (by decide)
theorem from_ret {n m x : Int} (h : n.natAbs ≤ 16777216) (e : (exV n 0).rd = some (m, x)) : Ret 20 #[.int .i64 n] (.agg #[.int .i64 m, .int .i64 x]) := fun w =>
  (fromInt_any n (by omega) (by omega) w).mono fun q w' ⟨k, hx⟩ => ⟨by rw [e] at k; exact k, hx⟩
theorem walk (a0 : Int) (w0 : (Lit.int .i64 a0).wf = true) (a1 : Int) (w1 : (Lit.int .i64 a1).wf = true) (w : World) (ht : Tb w) :
    Calls Tryz.prog 14 #[.int .i64 a0, .int .i64 a1] w fun e w' => e = .returned (.bool true) ∧ Ext w w' := by
  obtain ⟨n1, n2⟩ := bdI w1
  obtain ⟨pm, px, hp, A⟩ := at_vd w0
  have h2v : Vd 8388608 (-22) := vd_iff.1 (by decide)
  have P1 : Ret 46 #[.agg #[.int .i64 pm, .int .i64 px], .int .i64 1] _ := fun w => Pow_good hp (by omega) (by omega) (.inr (by omega)) w
  rw [powR_one hp] at P1
  have P2 : Ret 46 #[.agg #[.int .i64 pm, .int .i64 px], .int .i64 2] _ := fun w => Pow_good hp (by omega) (by omega) (.inr (by omega)) w
  have MU : Ret 40 #[.agg #[.int .i64 pm, .int .i64 px], .agg #[.int .i64 pm, .int .i64 px]] _ := Mul_vd pm px pm px
  have em : mulV pm px pm px = (okV (prodV pm px pm px).rd, okE (prodV pm px pm px).rd) := by unfold mulV; rw [comb_valid hp hp]
  rw [powR_sq hp] at P2
  have sv : Vd (mulV pm px pm px).1.1 (mulV pm px pm px).1.2 := by
    obtain ⟨r, _, b⟩ := mul_char hp hp
    rw [b]; exact resE_vd _ _
  have s0 : ¬ (mulV pm px pm px).1.1 < 0 := by
    obtain ⟨r, a, b⟩ := mul_char hp hp
    have sq0 : 0 ≤ sc pm px * sc pm px := by
      rcases Int.le_total 0 (sc pm px) with g | g
      · exact Int.mul_nonneg g g
      · exact Int.mul_nonneg_of_nonpos_of_nonpos g g
    rw [show decide (sc pm px * sc pm px < 0) = false by simp; omega] at b
    intro c
    have := sc_neg (mulV pm px pm px).1.1 (mulV pm px pm px).1.2
    rw [b] at this c
    by_cases rm : r ≤ 2533359615
    · have v := @resE_val false r rm
      simp only [Bool.false_eq_true, if_false] at v
      rw [v] at this
      simp [c] at this
      omega
    · rw [resE_err rm] at c; simp at c
  have SQ : Ret 42 #[.agg #[.int .i64 (mulV pm px pm px).1.1, .int .i64 (mulV pm px pm px).1.2]] _ := fun w => Sqrt_good sv s0 w
  have CP : Ret 29 #[.agg #[.int .i64 (mulV pm px pm px).1.1, .int .i64 (mulV pm px pm px).1.2], .agg #[.int .i64 8388608, .int .i64 (-123)]] _ := fun w => Cmp_vd sv vd_hun w
  have fin : (mulV pm px pm px).2 = 0 → (sqrtV (mulV pm px pm px).1.1 (mulV pm px pm px).1.2).2 = 0 ∧ (0 ≤ cmpV (mulV pm px pm px).1.1 (mulV pm px pm px).1.2 8388608 (-123) → (sqrtV (mulV pm px pm px).1.1 (mulV pm px pm px).1.2).1.1 = max pm (-pm) ∧ (sqrtV (mulV pm px pm px).1.1 (mulV pm px pm px).1.2).1.2 = px) := by
    intro hs
    refine ⟨sqrt_fit sv, fun hc => ?_⟩
    rw [cmpV_eq sv vd_hun, sc_hun] at hc
    have big : 1125899906842624 ≤ (sc (mulV pm px pm px).1.1 (mulV pm px pm px).1.2).natAbs := by
      unfold cmpI at hc
      split at hc
      · omega
      · omega
    have := sqrt_sq hp (p := (mulV pm px pm px).1.1) (z := (mulV pm px pm px).1.2) (by rw [← hs]) big
    rw [this]
    exact ⟨by show (pm.natAbs : Int) = max pm (-pm); omega, rfl⟩
  have P2' : Ret 46 #[.agg #[.int .i64 pm, .int .i64 px], .int .i64 2] (.tuple #[.agg #[.int .i64 (mulV pm px pm px).1.1, .int .i64 (mulV pm px pm px).1.2], .int .i64 (mulV pm px pm px).2]) := by rw [em]; exact P2
  have PT := Pow_all (n := a1) h2v n1 n2
  have PX := Pow_all (n := a1) hp n1 n2
  have PM := Pow_all (n := a1) hp.rev n1 n2
  have NG : Ret 26 #[.agg #[.int .i64 pm, .int .i64 px]] _ := fun w => Neg_vd hp w
  have AB : Ret 27 #[.agg #[.int .i64 pm, .int .i64 px]] _ := fun w => Abs_good pm px w (vd_iff.2 hp)
  have TH : Ret 62 #[.int .i64 (-100)] _ := fun w => two_at (-100) (-123) (by omega) (by omega) (by omega) w
  have FT := from_ret (n := 2) (by decide) (show (exV 2 0).rd = some (8388608, -22) by decide +kernel)
  have ht2 : -126 ≤ a1 → a1 ≤ 173 → (powE 8388608 (-22) a1).1.1 = 8388608 ∧ (powE 8388608 (-22) a1).1.2 = a1 - 23 ∧ (powE 8388608 (-22) a1).2 = 0 := fun g1 g2 => by
    unfold powE
    rw [if_neg (by omega), pow_two_all g1 g2]
    exact ⟨rfl, rfl, rfl⟩
  by_cases c : a1 % 2 = 0
  · rw [powE_even hp c] at PM
    exact plaw_even w ht a0 a1 pm px _ _ _ _ _ _ _ _ _ _ _ _ _ _ _ _ _ A P1 P2' MU FT PT (fun g1 g2 w => two_any a1 (by omega) (by omega) w) ht2 NG PX PM (by rw [Int.tmod_eq_emod]; split <;> omega) TH CP AB SQ fin sanity_any
  · rw [powE_odd hp c] at PM
    have NB : Ret 26 #[.agg #[.int .i64 (-(powE pm px a1).1.1), .int .i64 (powE pm px a1).1.2]] _ := fun w => Neg_vd (powE_vd hp).rev w
    rw [Int.neg_neg] at NB
    exact plaw_odd w ht a0 a1 pm px _ _ _ _ _ _ _ _ _ _ _ _ _ _ _ _ _ _ _ A P1 P2' MU FT PT (fun g1 g2 w => two_any a1 (by omega) (by omega) w) ht2 NG PX PM (by rw [Int.tmod_eq_emod]; split <;> omega) NB TH CP AB SQ fin sanity_any
end Go.Proofs.YtehmpffffjcloaaGreatDoor.realPowerLaws
