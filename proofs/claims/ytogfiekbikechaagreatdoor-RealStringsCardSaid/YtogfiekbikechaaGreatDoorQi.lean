/- Layer 2: the reference's Shortest gives the digits of the program's Print. -/
import Derived.Test.YtogfiekbikechaaGreatDoorQh
namespace Go.Proofs.YtogfiekbikechaaGreatDoor
open Go.ChangeShapes Go.WideShapes Go.ChangeAt Go.RowKit

theorem rnd_form (o : Option (Int × Int)) : ∃ a b ok, rndV o = .agg #[.int .i64 a, .int .i64 b, .bool ok] := by
  cases o with
  | none => exact ⟨_, _, _, rfl⟩
  | some q => exact ⟨_, _, _, rfl⟩
/-- Which roundings give the real itself. -/
theorem rnd_is {r : Nat} {m x m1 x1 : Int} {ok1 : Bool} (hV : rndV (resI false r) = .agg #[.int .i64 m1, .int .i64 x1, .bool ok1]) (h : Vd m x) (hm : 0 < m) :
    ((m1 == m && x1 == x) = true ↔ r = idx m x) ∧ ((ok1 && (m1 == m && x1 == x)) = true ↔ r = idx m x) := by
  have hI : resI false (idx m x) = some (m, x) := resI_idx' false h (fun _ => by rw [decide_eq_false (by omega)])
  by_cases e : r = idx m x
  · subst e
    rw [hI] at hV
    have e1 : m = m1 := by injection hV with h1; injection h1 with h2; injection h2 with h3 h4; injection h3
    have e2 : x = x1 := by injection hV with h1; injection h1 with h2; injection h2 with h3 h4; injection h4 with h5 h6; injection h5
    have e3 : true = ok1 := by injection hV with h1; injection h1 with h2; injection h2 with h3 h4; injection h4 with h5 h6; injection h6 with h7 h8; injection h7
    subst e1 e2 e3
    simp
  · have key : ¬ (m1 = m ∧ x1 = x) := by
      rintro ⟨rfl, rfl⟩
      by_cases hr : r ≤ 2533359615
      · obtain ⟨m', x', e', v', i', _⟩ := @resI_some false r hr
        rw [e'] at hV
        have e1 : m' = m1 := by injection hV with h1; injection h1 with h2; injection h2 with h3 h4; injection h3
        have e2 : x' = x1 := by injection hV with h1; injection h1 with h2; injection h2 with h3 h4; injection h4 with h5 h6; injection h5
        subst e1 e2
        exact e i'.symm
      · have e' : resI false r = none := by unfold resI; rw [if_neg (by omega), if_pos (by omega)]
        rw [e'] at hV
        have e1 : (0 : Int) = m1 := by injection hV with h1; injection h1 with h2; injection h2 with h3 h4; injection h3
        omega
    have kf : (m1 == m && x1 == x) = false := by
      rw [Bool.eq_false_iff]
      intro c
      rw [Bool.and_eq_true, beq_iff_eq, beq_iff_eq] at c
      exact key c
    rw [kf]
    simp [e]
theorem mag_szs {m x : Int} (h : Vd m x) : Szs (magN m x) (tw 150) := by
  have h1 := h.1
  obtain ⟨X, hX⟩ : ∃ X, (x + 150).toNat = X := ⟨_, rfl⟩
  have hX3 : X ≤ 300 := by have := h.2.2.1; omega
  refine ⟨⟨24 + (X + 1), by omega, ?_⟩, ⟨151, by omega, Nat.pow_lt_pow_right (by omega) (by omega)⟩⟩
  unfold magN
  rw [hX]
  have h2 : m.natAbs < 2 ^ 24 := by omega
  exact (fits_mul h2 (Nat.pow_lt_pow_right (by omega) (by omega) : 2 ^ X < 2 ^ (X + 1)) (by omega)).1
/-- Rounding in memory, for sizes that fit. -/
theorem round_to {n d r : Nat} {V : Value} {a b : Nat} (hd : 0 < d) (hn : n < 2 ^ a) (ha : a ≤ 5000) (hdd : d < 2 ^ b) (hb : b ≤ 5000) (hr : Near (n * tw 151) d r) (hV : rndV (resI false r) = V) : RoundTo n d V := by
  intro u a1 L1 C1 a2 L2 C2 h1 h2
  rw [← hV]
  have t : tw 151 < 2 ^ 152 := Nat.pow_lt_pow_right (by omega) (by omega)
  refine round_nat false a1 a2 L1 C1 L2 C2 n d r (n * tw 151) u h1 h2 hd rfl (fits_mul hn t (by omega)).2 (fun r' hr' => ?_) hr
  obtain ⟨K, hK⟩ : ∃ K : Nat, K = 325 := ⟨_, rfl⟩
  have hm : midN r' < 2 ^ K := Nat.lt_of_le_of_lt (mid_mono_le hr') (mid_top_lt hK)
  exact (fits_mul hm hdd (by omega)).2
/-- The nearer one of two decimals by their distances. -/
theorem take_eq {N S D E : Nat} {lo hi : Bool} (hS : 0 < S) (hD : N / S = D) (hE : E = D + 1) :
    takeI lo hi (cmpI ((gapN (D * S) N : Nat) : Int) ((gapN (E * S) N : Nat) : Int)) D E = if lo = false ∧ hi = false then E else if takeB lo hi N S then D + 1 else D := by
  subst hE
  have dm := Nat.div_add_mod N S
  have lt := Nat.mod_lt N hS
  rw [hD, Nat.mul_comm] at dm
  have g1 : gapN (D * S) N = N % S := by unfold gapN; split <;> omega
  have g2 : gapN ((D + 1) * S) N = S - N % S := by
    unfold gapN
    rw [Nat.add_mul, Nat.one_mul]
    split <;> omega
  rw [g1, g2]
  unfold takeI takeB nrB
  rw [hD]
  generalize N % S = R at *
  have c1 : (cmpI (R : Int) ((S - R : Nat) : Int) > 0) ↔ S < R + R := by unfold cmpI; split <;> (try split) <;> omega
  have c2 : (cmpI (R : Int) ((S - R : Nat) : Int) = 0) ↔ R + R = S := by unfold cmpI; split <;> (try split) <;> omega
  simp only [c1, c2]
  cases lo <;> cases hi <;> simp
  by_cases k1 : S < R + R
  · simp [k1]
  · by_cases k2 : R + R = S
    · simp [k2]
    · simp [k1, k2]
theorem shortest_ref {m x : Int} (h : Vd m x) (hm : 0 < m) : ∃ (D : Nat) (K : Int), Ret 91 #[.agg #[.int .i64 m, .int .i64 x]] (.agg #[.int .i64 (D : Int), .int .i64 K]) ∧ D ≤ 1000000000 ∧ 1 ≤ D ∧ decL 12 D = (prP m x).1 ∧ K + (prP m x).1.length = (prP m x).2 ∧ -100 ≤ K ∧ K ≤ 100 := by
  have m0 : m ≠ 0 := by omega
  obtain ⟨t, g, u, v, C⟩ := choice h m0
  obtain ⟨hl, D, K, F⟩ := C.fin
  have hmag : 0 < magN m x := Nat.mul_pos (by omega) (pow_pos2 _)
  have hlow := C.low hmag
  have ub := C.ub; have vb := C.vb
  have hsz := mag_szs h
  have t150 := tw_pos 150
  have hOA : OfTo2 m x false (magN m x) (tw 150) := fun w => by
    have := of_any h w
    rwa [decide_eq_false (by omega), sc_abs] at this
  have hKb : -100 ≤ K ∧ K ≤ 100 := by
    rcases F.way with ⟨_, e⟩ | ⟨_, _, e⟩ <;> omega
  refine ⟨D, K, fun w => ?_, F.le, F.pos, F.txt, F.point, hKb.1, hKb.2⟩
  refine shortest_walk m x ((u : Int) - v - 1) (magN m x) (tw 150) t.length (valD (t ++ [g])) D K hOA (fun u' v' hv => scale_any hv hsz (by omega) (by omega) C.scale) (by omega) (by omega) hl ?_ ?_ F.last F.pos ?_ w
  · intro j hj k hk
    have hk' : k = (u : Int) - v - 1 - j := hk
    obtain ⟨lo, hi, R, hno, hyes⟩ := C.round hj hk'
    have hpl := C.places (by omega) hk'
    obtain ⟨Dk, hDk⟩ : ∃ Dk, plD m x k = Dk := ⟨_, rfl⟩
    obtain ⟨E, hE⟩ : ∃ E, E = Dk + 1 := ⟨_, rfl⟩
    have Rlo := R.lo; have Rhi := R.hi
    rw [hDk] at hpl Rlo Rhi hyes
    rw [← hE] at Rhi
    have kb1 : -500 ≤ k := by omega
    have kb2 : k ≤ 500 := by omega
    obtain ⟨r1, n1⟩ := near_exists (P := Dk * tenU k * tw 151) (tenD_pos k)
    obtain ⟨r2, n2⟩ := near_exists (P := E * tenU k * tw 151) (tenD_pos k)
    obtain ⟨m1, x1, ok1, V1⟩ := rnd_form (resI false r1)
    obtain ⟨m2, x2, ok2, V2⟩ := rnd_form (resI false r2)
    have hlo : (m1 == m && x1 == x) = lo := by
      rw [Bool.eq_iff_iff, (rnd_is V1 h hm).1, Rlo]
      exact ⟨fun e => by rw [← e]; exact n1, fun c => near_unique (tenD_pos k) n1 c⟩
    have hhi : (ok2 && (m2 == m && x2 == x)) = hi := by
      rw [Bool.eq_iff_iff, (rnd_is V2 h hm).2, Rhi]
      exact ⟨fun e => by rw [← e]; exact n2, fun c => near_unique (tenD_pos k) n2 c⟩
    obtain ⟨eU, lU, tU⟩ := ten_size (k := k.toNat) (by omega)
    obtain ⟨eD, lD, tD⟩ := ten_size (k := (-k).toNat) (by omega)
    have b1 : Dk * tenU k < 2 ^ (41 + eU) := (fits_mul (n := Dk) (a := 41) (by clear tU tD; omega) tU (by clear tU tD; omega)).1
    have b2 : E * tenU k < 2 ^ (41 + eU) := (fits_mul (n := E) (a := 41) (by clear tU tD; omega) tU (by clear tU tD; omega)).1
    have hpos : 0 < Dk := by
      rw [← hDk]
      refine pl_iff.1 ?_
      have s1 := (C.scale (k - 1)).2 (by omega)
      rw [Nat.one_mul]
      -- 10^k is at most the number
      have e1 : 10 * tenU (k - 1) = 10 ^ ((k - 1).toNat + 1) := by unfold tenU; rw [Nat.pow_succ, Nat.mul_comm]
      rw [e1] at s1
      exact (ten_shift (A := magN m x) (T := tw 150) (by omega)).1 s1
    refine ⟨Dk, E, lo, hi, m1, x1, ok1, m2, x2, ok2, _, ⟨fun u' v' hv => below_any hv hsz (by omega) kb1 kb2 (fun D' => by rw [← hDk]; exact pl_iff), dec_exact (by omega) kb1 kb2, dec_exact (by omega) kb1 kb2,
      round_to (tenD_pos k) b1 (by clear tU tD b1 b2; omega) tD (by clear tU tD b1 b2; omega) n1 V1, round_to (tenD_pos k) b2 (by clear tU tD b1 b2; omega) tD (by clear tU tD b1 b2; omega) n2 V2, hpos, ?_, ?_, hlo, hhi, fun u' v' hv => di_any hv hsz (by omega) kb1 kb2, fun u' v' hv => di_any hv hsz (by omega) kb1 kb2, rfl⟩, hno, fun hj2 => ?_⟩
    · rw [hE]; clear tU tD b1 b2; exact IntWalk.i64_in _ ⟨by omega, by omega⟩
    · rw [hE]; clear tU tD b1 b2; unfold wrap64; omega
    · obtain ⟨y1, y2⟩ := hyes hj2
      refine ⟨y1, ?_⟩
      have := take_eq (N := magN m x * tenD k) (S := tenU k * tw 150) (D := Dk) (E := E) (lo := lo) (hi := hi) (Nat.mul_pos (tenU_pos k) t150) hDk hE
      rw [← Nat.mul_assoc, ← Nat.mul_assoc] at this
      rw [this, if_neg (by intro c; rw [c.1, c.2] at y1; cases y1), y2]
  · rcases F.way with ⟨e1, e2⟩ | ⟨e1, e2, e3⟩
    · exact .inl ⟨e1, e2⟩
    · exact .inr ⟨e1, e2, e3⟩
  · rcases F.way with ⟨e1, _⟩ | ⟨e1, _, _⟩
    · have := F.le; omega
    · omega
end Go.Proofs.YtogfiekbikechaaGreatDoor
