/- Layer 1: plain facts on powers. -/
import Derived.Test.YtifoeikbjdgdpabDoorMa
namespace Go.Proofs.YtifoeikbjdgdpabDoor

/-- The power, kept from being opened. -/
def pw (a : Int) (k : Nat) : Int := a ^ k
theorem pw_zero (a : Int) : pw a 0 = 1 := by unfold pw; exact Int.pow_zero a
theorem pw_succ (a : Int) (k : Nat) : pw a (k + 1) = pw a k * a := by unfold pw; exact Int.pow_succ a k
theorem pw_add (a : Int) (m n : Nat) : pw a (m + n) = pw a m * pw a n := by unfold pw; exact Int.pow_add a m n
theorem pw_one_exp (a : Int) : pw a 1 = a := by rw [pw_succ, pw_zero, Int.one_mul]
theorem pw_abs (a : Int) (k : Nat) : (pw a k).natAbs = a.natAbs ^ k := by unfold pw; exact Int.natAbs_pow a k
theorem pw_mono {a : Int} (h : a ≠ 0) {k m : Nat} (hk : k ≤ m) : (pw a k).natAbs ≤ (pw a m).natAbs := by
  rw [pw_abs, pw_abs]; exact Nat.pow_le_pow_right (by omega) hk
theorem pw_ok_mono {a : Int} (h : a ≠ 0) {k m : Nat} (hk : k ≤ m) (ho : okB (pw a m) = true) : okB (pw a k) = true := by
  have := pw_mono h hk
  have := okB_t.1 ho
  exact okB_in (by omega) (by omega)
theorem pw_zero_base {k : Nat} (h : k ≠ 0) : pw 0 k = 0 := by unfold pw; exact Int.zero_pow h
theorem pw_one_base (k : Nat) : pw 1 k = 1 := by unfold pw; exact Int.one_pow
theorem pw_neg_base (m : Nat) : pw (-1) (2 * m) = 1 ∧ pw (-1) (2 * m + 1) = -1 := by
  induction m with
  | zero => exact ⟨pw_zero _, pw_one_exp _⟩
  | succ m ih =>
    have e : pw (-1) (2 * (m + 1)) = 1 := by
      rw [show 2 * (m + 1) = (2 * m + 1) + 1 from by omega, pw_succ, ih.2]; rfl
    exact ⟨e, by rw [pw_succ, e]; rfl⟩
theorem pw_even {n : Int} (h0 : 0 ≤ n) (h : n % 2 = 0) : pw (-1) n.toNat = 1 := by
  have := (pw_neg_base (n / 2).toNat).1
  rw [show n.toNat = 2 * (n / 2).toNat from by omega]; exact this
theorem pw_odd {n : Int} (h0 : 0 ≤ n) (h : n % 2 = 1) : pw (-1) n.toNat = -1 := by
  have := (pw_neg_base (n / 2).toNat).2
  rw [show n.toNat = 2 * (n / 2).toNat + 1 from by omega]; exact this

def powE (a n : Int) : Int := if okB a && okB n && decide (0 ≤ n) then (if a = 0 ∧ n = 0 then 5 else if okB (pw a n.toNat) then 0 else 3) else 1
def powV (a n : Int) : Int := if powE a n = 0 then pw a n.toNat else 0

/-- A power whose base is -1, 0 or 1 depends on whether the exponent is even, alone. -/
theorem pw_small {a n : Int} (h1 : -1 ≤ a) (h2 : a ≤ 1) (h0 : 0 ≤ n) (hz : ¬ (a = 0 ∧ n = 0)) : pw a (2 - n % 2).toNat = pw a n.toNat ∧ -1 ≤ pw a n.toNat ∧ pw a n.toNat ≤ 1 := by
  rcases (show a = -1 ∨ a = 0 ∨ a = 1 by omega) with rfl | rfl | rfl
  · rcases (show n % 2 = 0 ∨ n % 2 = 1 by omega) with h | h
    · rw [pw_even h0 h, pw_even (by omega) (by omega)]; omega
    · rw [pw_odd h0 h, pw_odd (by omega) (by omega)]; omega
  · rw [pw_zero_base (by omega), pw_zero_base (by omega)]; omega
  · rw [pw_one_base, pw_one_base]; omega
theorem pw_small_ok {a : Int} (h1 : -1 ≤ a) (h2 : a ≤ 1) (k : Nat) : -1 ≤ pw a k ∧ pw a k ≤ 1 := by
  have h : a.natAbs ^ k ≤ 1 ^ k := Nat.pow_le_pow_left (by omega) k
  rw [Nat.one_pow, ← pw_abs] at h; omega
end Go.Proofs.YtifoeikbjdgdpabDoor
