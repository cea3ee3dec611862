/- Layer 1: plain facts on integers, spans and loops (no program here). -/
import Derived.WalkKit
namespace Go.Proofs.YtifoeikbjdgdpabDoor

/-- n is a valid integer. -/
def okB (n : Int) : Bool := decide (-2147483647 ≤ n) && decide (n ≤ 2147483647)
theorem okB_t {n : Int} : okB n = true ↔ (-2147483647 ≤ n ∧ n ≤ 2147483647) := by unfold okB; simp
theorem okB_f {n : Int} : okB n = false ↔ (n < -2147483647 ∨ 2147483647 < n) := by
  rw [← Bool.not_eq_true, okB_t]; omega
theorem okB_in {n : Int} (h : -2147483647 ≤ n) (h' : n ≤ 2147483647) : okB n = true := okB_t.2 ⟨h, h'⟩
theorem okB_out {n : Int} (h : n < -2147483647 ∨ 2147483647 < n) : okB n = false := okB_f.2 h

/-- A product of two valid integers fits into 64 bits. -/
theorem mul_fits {a b : Int} (ha : -2147483647 ≤ a) (ha' : a ≤ 2147483647) (hb : -2147483647 ≤ b) (hb' : b ≤ 2147483647) :
    -4611686014132420609 ≤ a * b ∧ a * b ≤ 4611686014132420609 := by
  have h1 : (a * b).natAbs ≤ 2147483647 * 2147483647 := by
    rw [Int.natAbs_mul]; exact Nat.mul_le_mul (by omega) (by omega)
  omega

def negV (a : Int) : Int := if okB a then -a else 0
def absV (a : Int) : Int := if okB a then max a (-a) else 0
def cmpI (a b : Int) : Int := if a < b then -1 else if b < a then 1 else 0
def sgnV (a : Int) : Int := if okB a then cmpI a 0 else 0
def oneE (a : Int) : Int := if okB a then 0 else 1
def fitV (n : Int) : Int := if okB n then n else 0
def fitE (n : Int) : Int := if okB n then 0 else 3
def addV (a b : Int) : Int := if okB a && okB b then fitV (a + b) else 0
def addE (a b : Int) : Int := if okB a && okB b then fitE (a + b) else 1
def subV (a b : Int) : Int := if okB a && okB b then fitV (a - b) else 0
def subE (a b : Int) : Int := if okB a && okB b then fitE (a - b) else 1
def mulV (a b : Int) : Int := if okB a && okB b then fitV (a * b) else 0
def mulE (a b : Int) : Int := if okB a && okB b then fitE (a * b) else 1
def cmpV (a b : Int) : Int := if okB a && okB b then cmpI a b else 0
def twoE (a b : Int) : Int := if okB a && okB b then 0 else 1
def divE (a b : Int) : Int := if okB a && okB b then (if b = 0 then 5 else 0) else 1
def flB (a b : Int) : Bool := decide (a.tmod b ≠ 0) && (decide (a.tmod b < 0) != decide (b < 0))
def flo (a b : Int) : Int := if flB a b then a.tdiv b - 1 else a.tdiv b
def flm (a b : Int) : Int := if flB a b then a.tmod b + b else a.tmod b
def quoV (a b : Int) : Int := if divE a b = 0 then a.tdiv b else 0
def remV (a b : Int) : Int := if divE a b = 0 then a.tmod b else 0
def floV (a b : Int) : Int := if divE a b = 0 then flo a b else 0
def modV (a b : Int) : Int := if divE a b = 0 then flm a b else 0
theorem divE_3 (a b : Int) : divE a b = 0 ∨ divE a b = 1 ∨ divE a b = 5 := by
  unfold divE; cases okB a <;> cases okB b <;> simp; by_cases h : b = 0 <;> simp [h]
theorem divE_0 {a b : Int} (h : divE a b = 0) : okB a = true ∧ okB b = true ∧ b ≠ 0 := by
  unfold divE at h
  cases ha : okB a <;> cases hb : okB b <;> simp [ha, hb] at h
  exact ⟨rfl, rfl, fun e => by simp [e] at h⟩
theorem divE_1 {a b : Int} (h : divE a b = 1) : okB a = false ∨ (okB a = true ∧ okB b = false) := by
  unfold divE at h
  cases ha : okB a <;> cases hb : okB b <;> simp [ha, hb] at h ⊢
  split at h <;> omega
theorem divE_5 {a b : Int} (h : divE a b = 5) : okB a = true ∧ okB b = true ∧ b = 0 := by
  unfold divE at h
  cases ha : okB a <;> cases hb : okB b <;> simp [ha, hb] at h
  exact ⟨rfl, rfl, h⟩
/-- What is known of a quotient and its remainder. -/
structure DivAt (a b q r : Int) : Prop where
  hq : a.tdiv b = q
  hr : a.tmod b = r
  qb : q * b = a - r
  qb1 : (q - 1) * b = a - r - b
  q1 : -2147483647 ≤ q
  q2 : q ≤ 2147483647
  r1 : 0 ≤ a → 0 ≤ r
  r2 : a ≤ 0 → r ≤ 0
  r3 : 0 < b → -b < r ∧ r < b
  r4 : b < 0 → b < r ∧ r < -b
theorem divAt {a b : Int} (ha : okB a = true) (hz : b ≠ 0) : ∃ q r, DivAt a b q r := by
  have g := okB_t.1 ha
  have e : a.tdiv b * b = a - a.tmod b := by have := Int.tdiv_mul_add_tmod a b; omega
  have hl : (a.tdiv b).natAbs ≤ a.natAbs := by rw [Int.natAbs_tdiv]; exact Nat.div_le_self _ _
  have hm : (a.tmod b).natAbs < b.natAbs := by rw [Int.natAbs_tmod]; exact Nat.mod_lt _ (by omega)
  refine ⟨a.tdiv b, a.tmod b, rfl, rfl, e, by rw [Int.sub_mul, e, Int.one_mul], by omega, by omega, ?_, ?_, ?_, ?_⟩
  · intro h; exact Int.tmod_nonneg _ h
  · intro h
    have := Int.tmod_nonneg b (a := -a) (by omega)
    rw [Int.neg_tmod] at this; omega
  · intro h; omega
  · intro h; omega
end Go.Proofs.YtifoeikbjdgdpabDoor
