/- Layer 2: the quotient of two reals. -/
import Derived.Test.YtoeahfddnjbhbaaGreatDoorNzl
namespace Go.Proofs.YtoeahfddnjbhbaaGreatDoor
open Go.RowKit

theorem lz_any (x : Nat) (h : x < 18446744073709551616) (w : World) :
    Calls Tryz.prog 110 #[.int .u64 x] w fun e w' => e = .returned (.int .i64 (lzV x : Nat)) ∧ w = w' :=
  (Tryz.bits_LeadingZeros64 x w (by omega) (by omega)).mono fun e w' ⟨h1, h2⟩ => ⟨by
    have h3 := nb_le64 h
    rw [h1]
    simp only [Int.toNat_natCast, nb_bitLen h]
    unfold lzV
    rw [show (((64 - nb x : Nat)) : Int) = 64 - (nb x : Int) by omega], h2.symm⟩
theorem lz_lt {x : Nat} (h : x < 18446744073709551616) : x * 2 ^ lzV x < 18446744073709551616 := by
  unfold lzV
  by_cases h0 : x = 0
  · subst h0; simp
  obtain ⟨_, _, h3⟩ := nb_lo h0
  have h4 := nb_le64 h
  have h5 : x * 2 ^ (64 - nb x) < 2 ^ nb x * 2 ^ (64 - nb x) := Nat.mul_lt_mul_of_pos_right h3 (Nat.two_pow_pos _)
  rw [← Nat.pow_add, show nb x + (64 - nb x) = 64 by omega] at h5
  exact h5
theorem quot_any (m x n y : Int) (hn : n ≠ 0) (b1 : -150 ≤ x) (b2 : x ≤ 150) (b3 : -150 ≤ y) (b4 : y ≤ 150) (c1 : -16777216 < m) (c2 : m < 16777216) (c3 : -16777216 < n) (c4 : n < 16777216) (w : World) :
    Calls Tryz.prog 81 #[.agg #[.int .i64 m, .int .i64 x], .agg #[.int .i64 n, .int .i64 y]] w fun e w' =>
      e = .returned (.agg #[.bool (quotV m x n y).neg, .int .u64 (quotV m x n y).man, .int .i64 (quotV m x n y).exp, .bool (quotV m x n y).more]) ∧ Ext w w' := by
  have hm64 : m.natAbs < 18446744073709551616 := by omega
  have hK := lz_lt hm64
  have hS : lzV m.natAbs ≤ 64 := by unfold lzV; omega
  have Q := quot_w m x n y (decide (m < 0)) (decide (n < 0)) m.natAbs n.natAbs (m.natAbs * 2 ^ lzV m.natAbs) (lzV m.natAbs : Nat) b1 b2 b3 b4 (by omega) (by omega)
    (by rw [beq_eq_false_iff_ne]; omega) (by omega) (by omega) (by omega) (by omega)
    (by rw [Int.toNat_natCast]
        have e : ((m.natAbs : Nat) : Int) * 2 ^ lzV m.natAbs = ((m.natAbs * 2 ^ lzV m.natAbs : Nat) : Int) := by simp
        rw [e]; exact IntWalk.u64_in _ ⟨by omega, by omega⟩) w
    (lz_any _ hm64) (fun w => exactly_any m x (by omega) (by omega) w) (fun w => exactly_any n y (by omega) (by omega) w)
  refine Q.mono ?_
  rintro e w' ⟨rfl, hx⟩
  refine ⟨?_, hx⟩
  have e1 : ((m.natAbs * 2 ^ lzV m.natAbs : Nat) : Int) / (n.natAbs : Int) = ((m.natAbs * 2 ^ lzV m.natAbs / n.natAbs : Nat) : Int) := (Int.natCast_ediv _ _).symm
  have e2 : (((m.natAbs * 2 ^ lzV m.natAbs : Nat) : Int) % (n.natAbs : Int) != 0) = decide (m.natAbs * 2 ^ lzV m.natAbs % n.natAbs ≠ 0) := by
    rw [← Int.natCast_emod]
    generalize m.natAbs * 2 ^ lzV m.natAbs % n.natAbs = r
    rw [Bool.eq_iff_iff]; simp
  rw [e1, e2]
  rfl
theorem quot_ok (m x n y : Int) (hn : n ≠ 0) (b1 : -150 ≤ x) (b2 : x ≤ 150) (b3 : -150 ≤ y) (b4 : y ≤ 150) (c1 : -16777216 < m) (c2 : m < 16777216) :
    (quotV m x n y).man < 18446744073709551616 ∧ -1000000 ≤ (quotV m x n y).exp ∧ (quotV m x n y).exp ≤ 1000000 := by
  have hm64 : m.natAbs < 18446744073709551616 := by omega
  have hK := lz_lt hm64
  have hS : lzV m.natAbs ≤ 64 := by unfold lzV; omega
  refine ⟨Nat.lt_of_le_of_lt (Nat.div_le_self _ _) hK, ?_, ?_⟩ <;> (simp only [quotV]; omega)
theorem quot_ent (args : Array Value) (w : World) : (callFunc 81 args).run Tryz.prog w = .ok (.enter 81 args) w :=
  ent_any Tryz.func81 (by kernel_rfl) rfl args w
theorem div_comb (m x n y : Int) (hn : n ≠ 0) (w : World) :
    Calls Tryz.prog 74 #[.agg #[.int .i64 m, .int .i64 x], .agg #[.int .i64 n, .int .i64 y], .func (.func 81) #[] #[]] w fun e w' =>
      e = .returned (.tuple #[.agg #[.int .i64 (combV m x n y (quotV m x n y)).1.1, .int .i64 (combV m x n y (quotV m x n y)).1.2], .int .i64 (combV m x n y (quotV m x n y)).2]) ∧ Ext w w' :=
  combined_any 81 (quotV m x n y) m x n y w quot_ent fun h => by
    obtain ⟨⟨b1, b2, b3, b4⟩, c1, c2, c3, c4⟩ := both_bd h
    exact ⟨quot_ok m x n y hn b1 b2 b3 b4 c1 c2, fun w => quot_any m x n y hn b1 b2 b3 b4 c1 c2 c3 c4 w⟩
end Go.Proofs.YtoeahfddnjbhbaaGreatDoor
