/- Layer 2: naturals in places of 64 bits: plain facts (no program here). -/
/- Layer 2: the places of a natural, as the program's loops meet them (no program here). -/
/- Layer 2: six cells of a block (no program here). -/
/- Layer 2: what the functions of package real give, as plain functions (no program here). -/
/- Layer 2: what Print gives, as plain functions (no program here); sanity's texts by these functions. -/
/- Layer 2: a block of four naturals and an int (no program here). -/
/- Layer 2: comparison and length of naturals: plain facts (no program here). -/
/- Layer 2: rounding: plain facts (no program here). -/
/- Layer 2: quotients of naturals: plain facts, and the block of their result (no program here). -/
/- Layer 2: the loops of decimalOf, as plain functions; the blocks that its walk carries (no program here). -/
/- Layer 2: what the walk of shortest carries (no program here). -/
/- Layer 2: shortest's texts as plain functions; what a round of its loop carries (no program here). -/
import Derived.WalkKit
import Derived.Test.YtoeahfddnjbhbaaGreatDoorExt
import Derived.Laws.Tables
import Derived.Laws.CopyRow
import Derived.Lib.SlBuf
import Derived.Lib.BitFns
import Derived.Lib.SlTrimSet
import Derived.Lib.ItoaNum
import Derived.Lib.Hide
import Derived.Deep.MidRow
import Derived.RangeFuncOwn
namespace Go.Proofs.YtoeahfddnjbhbaaGreatDoor

/-! ### Places to a base -/
def limb (b n k : Nat) : Nat := n / b ^ k % b
def carA (b n m k : Nat) : Nat := (n % b ^ k + m % b ^ k) / b ^ k
def carM (b n f k : Nat) : Nat := (n % b ^ k * f) / b ^ k

theorem split_at (b n k : Nat) : n = b ^ k * (n / b ^ k) + n % b ^ k := (Nat.div_add_mod n (b ^ k)).symm
theorem add_div_at {b : Nat} (hb : 0 < b) (n m k : Nat) : (n + m) / b ^ k = n / b ^ k + m / b ^ k + carA b n m k := by
  have hp : 0 < b ^ k := Nat.pow_pos hb
  have e : n + m = (n % b ^ k + m % b ^ k) + b ^ k * (n / b ^ k + m / b ^ k) := by
    have h1 := split_at b n k
    have h2 := split_at b m k
    rw [Nat.mul_add]; omega
  rw [e, Nat.add_mul_div_left _ _ hp]
  unfold carA
  have h1 : ((n % b ^ k + m % b ^ k) + b ^ k * (n / b ^ k + m / b ^ k)) = n + m := e.symm
  omega
theorem add_limb {b : Nat} (hb : 0 < b) (n m k : Nat) : limb b (n + m) k = (limb b n k + limb b m k + carA b n m k) % b := by
  unfold limb
  rw [add_div_at hb]
  simp [Nat.add_mod]
theorem mod_succ_at (b n k : Nat) : n % b ^ (k + 1) = n % b ^ k + b ^ k * limb b n k := Nat.mod_pow_succ
theorem add_carry {b : Nat} (hb : 0 < b) (n m k : Nat) : carA b n m (k + 1) = (limb b n k + limb b m k + carA b n m k) / b := by
  have hp : 0 < b ^ k := Nat.pow_pos hb
  unfold carA
  rw [mod_succ_at, mod_succ_at, Nat.pow_succ, ← Nat.div_div_eq_div_mul]
  have e : n % b ^ k + b ^ k * limb b n k + (m % b ^ k + b ^ k * limb b m k) = (n % b ^ k + m % b ^ k) + b ^ k * (limb b n k + limb b m k) := by
    rw [Nat.mul_add]; omega
  rw [e, Nat.add_mul_div_left _ _ hp, Nat.add_comm]
theorem carA_zero (b n m : Nat) : carA b n m 0 = 0 := by simp [carA, Nat.mod_one]
theorem carA_le {b : Nat} (hb : 0 < b) (n m k : Nat) : carA b n m k ≤ 1 := by
  have hp : 0 < b ^ k := Nat.pow_pos hb
  have h1 := Nat.mod_lt n hp
  have h2 := Nat.mod_lt m hp
  unfold carA
  have : (n % b ^ k + m % b ^ k) / b ^ k < 2 := Nat.div_lt_of_lt_mul (by omega)
  omega
theorem mul_limb {b : Nat} (hb : 0 < b) (n f k : Nat) : limb b (n * f) k = (limb b n k * f + carM b n f k) % b := by
  have hp : 0 < b ^ k := Nat.pow_pos hb
  have e : n * f = n % b ^ k * f + b ^ k * (n / b ^ k * f) := by
    have h1 := split_at b n k
    calc n * f = (b ^ k * (n / b ^ k) + n % b ^ k) * f := by rw [← h1]
      _ = _ := by rw [Nat.add_mul, Nat.mul_assoc, Nat.add_comm]
  unfold limb
  rw [e, Nat.add_mul_div_left _ _ hp]
  unfold carM
  rw [Nat.add_comm, Nat.add_mod, Nat.add_mod (n / b ^ k % b * f), Nat.mod_mul_mod]
theorem mul_carry {b : Nat} (hb : 0 < b) (n f k : Nat) : carM b n f (k + 1) = (limb b n k * f + carM b n f k) / b := by
  have hp : 0 < b ^ k := Nat.pow_pos hb
  unfold carM
  rw [mod_succ_at, Nat.pow_succ, ← Nat.div_div_eq_div_mul]
  have e : (n % b ^ k + b ^ k * limb b n k) * f = n % b ^ k * f + b ^ k * (limb b n k * f) := by
    rw [Nat.add_mul, Nat.mul_assoc]
  rw [e, Nat.add_mul_div_left _ _ hp, Nat.add_comm]
theorem carM_zero (b n f : Nat) : carM b n f 0 = 0 := by simp [carM, Nat.mod_one]
theorem carM_lt {b : Nat} (hb : 0 < b) (n f k : Nat) (hf : 0 < f) : carM b n f k < f := by
  have hp : 0 < b ^ k := Nat.pow_pos hb
  have h1 := Nat.mod_lt n hp
  unfold carM
  refine Nat.div_lt_of_lt_mul ?_
  exact Nat.mul_lt_mul_of_pos_right h1 hf
theorem limb_lt {b : Nat} (hb : 0 < b) (n k : Nat) : limb b n k < b := Nat.mod_lt _ hb
/-- What lies beyond a place does not matter. -/
theorem limb_mod {b : Nat} (hb : 0 < b) (n : Nat) {k K : Nat} (h : k < K) : limb b (n % b ^ K) k = limb b n k := by
  unfold limb
  have e : b ^ K = b ^ k * b ^ (K - k) := by rw [← Nat.pow_add]; congr 1; omega
  rw [e, Nat.mod_mul_right_div_self]
  refine Nat.mod_mod_of_dvd _ ?_
  exact ⟨b ^ (K - k - 1), by rw [← Nat.pow_succ']; congr 1; omega⟩
theorem limb_zero (b k : Nat) : limb b 0 k = 0 := by simp [limb]
theorem limb_small {b n : Nat} (h : n < b) : limb b n 0 = n := by simp [limb, Nat.mod_eq_of_lt h]
theorem limb_small' {b n k : Nat} (h : n < b) (hk : 1 ≤ k) : limb b n k = 0 := by
  unfold limb
  have : n < b ^ k := Nat.lt_of_lt_of_le h (by
    have : b ^ 1 ≤ b ^ k := Nat.pow_le_pow_right (by omega) hk
    simpa using this)
  rw [Nat.div_eq_of_lt this]; rfl
/-- A place is shifted. -/
theorem limb_shift {b : Nat} (hb : 0 < b) (n k : Nat) : limb b (n * b) (k + 1) = limb b n k := by
  unfold limb
  rw [Nat.pow_succ, Nat.mul_comm (b ^ k) b, ← Nat.div_div_eq_div_mul, Nat.mul_div_cancel _ hb]
theorem limb_shift0 {b : Nat} (n : Nat) : limb b (n * b) 0 = 0 := by simp [limb]
/-- Two numbers with the same places are equal. -/
theorem limbs_inj {b : Nat} (hb : 0 < b) : ∀ (K n m : Nat), (∀ k, k < K → limb b n k = limb b m k) → n % b ^ K = m % b ^ K
  | 0, n, m, _ => by simp [Nat.mod_one]
  | K + 1, n, m, h => by
    rw [mod_succ_at, mod_succ_at, limbs_inj hb K n m (fun k hk => h k (by omega)), h K (by omega)]
/-- The first place from above in which they differ decides. -/
theorem limb_lt_at {b : Nat} (hb : 0 < b) {n m K k : Nat} (hn : n < b ^ K) (hm : m < b ^ K) (hk : k < K) (he : ∀ j, k < j → j < K → limb b n j = limb b m j) (h : limb b n k < limb b m k) : n < m := by
  have hn' : n / b ^ (k + 1) = m / b ^ (k + 1) := by
    have : ∀ (x : Nat), x < b ^ K → x / b ^ (k + 1) < b ^ (K - (k + 1)) := fun x hx => Nat.div_lt_of_lt_mul (by rw [← Nat.pow_add, show k + 1 + (K - (k + 1)) = K by omega]; exact hx)
    have a := Nat.mod_eq_of_lt (this n hn)
    have c := Nat.mod_eq_of_lt (this m hm)
    rw [← a, ← c]
    refine limbs_inj hb _ _ _ fun j hj => ?_
    have := he (k + 1 + j) (by omega) (by omega)
    unfold limb at this ⊢
    rw [Nat.pow_add, ← Nat.div_div_eq_div_mul, ← Nat.div_div_eq_div_mul] at this
    exact this
  have hp : 0 < b ^ k := Nat.pow_pos hb
  have h1 := split_at b n (k + 1)
  have h2 := split_at b m (k + 1)
  rw [mod_succ_at] at h1 h2
  have g1 := Nat.mod_lt n hp
  have : b ^ k * limb b n k + b ^ k ≤ b ^ k * limb b m k := by
    rw [← Nat.mul_succ]; exact Nat.mul_le_mul_left _ h
  rw [hn'] at h1
  generalize m % b ^ k = y at *
  generalize n % b ^ k = x at *
  omega
end Go.Proofs.YtoeahfddnjbhbaaGreatDoor

namespace Go.Proofs.YtoeahfddnjbhbaaGreatDoor

def B64 : Nat := 18446744073709551616
theorem B64_pos : 0 < B64 := by decide
theorem B64_eq : B64 = 18446744073709551616 := rfl
/-- Place j of n. -/
def L (n j : Nat) : Nat := limb B64 n j
theorem L_lt (n j : Nat) : L n j < 18446744073709551616 := limb_lt B64_pos n j
def mhi (x y : Nat) : Nat := x * y / B64
def mlo (x y : Nat) : Nat := x * y % B64
def asum (x y c : Nat) : Nat := (x + y + c) % B64
def acar (x y c : Nat) : Nat := (x + y + c) / B64
def sdif (x y c : Nat) : Nat := (x + B64 - y - c) % B64
def sbor (x y c : Nat) : Nat := if x < y + c then 1 else 0
/-- What is carried into place k: of a product, of a sum. -/
def CM (n f k : Nat) : Nat := carM B64 n f k
def CA (n m k : Nat) : Nat := carA B64 n m k
theorem CM_lt (n f k : Nat) (hf : f < 18446744073709551616) : CM n f k < 18446744073709551616 := by
  unfold CM
  rcases Nat.eq_zero_or_pos f with h | h
  · subst h; unfold carM; simp
  · exact Nat.lt_trans (carM_lt B64_pos n f k h) hf
theorem CM_zero (n f : Nat) : CM n f 0 = 0 := carM_zero _ _ _
theorem CA_zero (n m : Nat) : CA n m 0 = 0 := carA_zero _ _ _
theorem CA_le (n m k : Nat) : CA n m k ≤ 1 := carA_le B64_pos _ _ _
theorem mlo_lt (x y : Nat) : mlo x y < 18446744073709551616 := Nat.mod_lt _ B64_pos
theorem mul_place (n f k : Nat) : asum (mlo (L n k) f) (CM n f k) 0 = L (n * f) k := by
  unfold asum mlo L CM
  rw [mul_limb B64_pos, Nat.add_zero, Nat.add_mod, Nat.mod_mod, ← Nat.add_mod]
theorem mul_next (n f k : Nat) : mhi (L n k) f + acar (mlo (L n k) f) (CM n f k) 0 = CM n f (k + 1) := by
  unfold mhi acar mlo L CM
  rw [mul_carry B64_pos, Nat.add_zero]
  generalize limb B64 n k * f = x
  generalize carM B64 n f k = c
  have h := Nat.div_add_mod x B64
  conv => rhs; rw [← h, Nat.add_assoc, Nat.mul_add_div B64_pos]
theorem add_place (n m k : Nat) : asum (L n k) (L m k) (CA n m k) = L (n + m) k := by
  unfold asum L CA; rw [add_limb B64_pos]
theorem add_next (n m k : Nat) : acar (L n k) (L m k) (CA n m k) = CA n m (k + 1) := by
  unfold acar L CA; rw [add_carry B64_pos]
/-- A difference: d + m = n. -/
theorem sub_place (d m k : Nat) : sdif (L (d + m) k) (L m k) (CA d m k) = L d k := by
  have h := add_place d m k
  have h1 := L_lt d k
  have h2 := L_lt m k
  have h3 := CA_le d m k
  unfold sdif
  rw [← h]
  unfold asum
  rw [B64_eq]
  generalize L d k = x at *
  generalize L m k = y at *
  generalize CA d m k = c at *
  omega
theorem sub_next (d m k : Nat) : sbor (L (d + m) k) (L m k) (CA d m k) = CA d m (k + 1) := by
  have h := add_place d m k
  have h0 := add_next d m k
  have h1 := L_lt d k
  have h2 := L_lt m k
  have h3 := CA_le d m k
  unfold sbor
  rw [← h, ← h0]
  unfold asum acar
  rw [B64_eq]
  generalize L d k = x at *
  generalize L m k = y at *
  generalize CA d m k = c at *
  split <;> omega

/-- The places below k are those of a, the others those of b. -/
def mix (a b k j : Nat) : Nat := if j < k then L a j else L b j
theorem mix_zero (a b j : Nat) : mix a b 0 j = L b j := by unfold mix; simp
theorem mix_at (a b k : Nat) : mix a b k k = L b k := by unfold mix; simp
theorem mix_all {a b k j : Nat} (h : j < k) : mix a b k j = L a j := by unfold mix; simp [h]
theorem mix_step (a b k j : Nat) (h : j ≠ k) : mix a b (k + 1) j = mix a b k j := by
  unfold mix; by_cases h1 : j < k
  · rw [if_pos h1, if_pos (by omega)]
  · rw [if_neg h1, if_neg (by omega)]
theorem mix_new (a b k : Nat) : mix a b (k + 1) k = L a k := by unfold mix; simp
end Go.Proofs.YtoeahfddnjbhbaaGreatDoor

namespace Go.Proofs.YtoeahfddnjbhbaaGreatDoor
open Go.RowKit

/-- Block b holds six places, which may be written. -/
structure Six (wr : World) (b : Nat) (X : Nat → Nat) : Prop where
  cell : ∀ j, j < 6 → wr.cell? ⟨b, j, none⟩ = some (.int .u64 (X j))
  froz : ∀ j, wr.frozen? ⟨b, j, none⟩ = false

theorem Six.lt {wr : World} {b : Nat} {X : Nat → Nat} (h : Six wr b X) : b < wr.heap.size := World.block_lt_of_cell? wr _ (h.cell 0 (by omega))
theorem Six.later {w wr : World} {b : Nat} {X : Nat → Nat} (h : Six w b X) (hx : Ext w wr) : Six wr b X :=
  ⟨fun j hj => (hx.cell j h.lt).trans (h.cell j hj), fun j => (hx.froz j h.lt).trans (h.froz j)⟩
theorem Six.drew {w : World} {b : Nat} {X : Nat → Nat} (h : Six w b X) : Six w.drew b X := h.later ((Ext.refl w).drew)
theorem Six.drewN {w : World} {b : Nat} {X : Nat → Nat} (h : Six w b X) (n : Nat) : Six (w.drewN n) b X := h.later ((Ext.refl w).drewN n)
/-- A place is written. -/
theorem Six.set {w : World} {b k : Nat} {X Y : Nat → Nat} (h : Six w b X) {v : Nat} (hk : k < 6) (hv : Y k = v) (ho : ∀ j, j ≠ k → Y j = X j) : Six (w.setCell ⟨b, k, none⟩ (.int .u64 v)) b Y where
  cell := fun j hj => by
    by_cases e : j = k
    · subst e; rw [hv]; exact World.cell?_setCell_same' _ _ _ (by rw [h.cell j hj]; rfl)
    · rw [ho j e, ← h.cell j hj]
      apply World.cell?_setCell_other; intro e2; simp at e2; try exact e e2.symm
  froz := fun j => by rw [World.frozen?_setCell]; exact h.froz j
theorem Six.other {w : World} {b c k : Nat} {X : Nat → Nat} (h : Six w b X) {v : Value} (hn : b ≠ c) : Six (w.setCell ⟨c, k, none⟩ v) b X where
  cell := fun j hj => by
    rw [← h.cell j hj]
    apply World.cell?_setCell_other; intro e2; simp at e2; try exact hn e2.1.symm
  froz := fun j => by rw [World.frozen?_setCell]; exact h.froz j
theorem six_new (w : World) (X : Nat → Nat) (T : TypeId) : Six (w.alloc (.cells #[.int .u64 (X 0), .int .u64 (X 1), .int .u64 (X 2), .int .u64 (X 3), .int .u64 (X 4), .int .u64 (X 5)] T)) w.heap.size X where
  cell := fun j hj => by
    have : j = 0 ∨ j = 1 ∨ j = 2 ∨ j = 3 ∨ j = 4 ∨ j = 5 := by omega
    rcases this with rfl | rfl | rfl | rfl | rfl | rfl <;> simp [go_sem]
  froz := fun j => by simp [go_sem]
theorem Six.cells {wr : World} {b : Nat} {X : Nat → Nat} (h : Six wr b X) : wr.cell? ⟨b, 0, none⟩ = some (.int .u64 (X 0)) ∧ wr.cell? ⟨b, 1, none⟩ = some (.int .u64 (X 1)) ∧ wr.cell? ⟨b, 2, none⟩ = some (.int .u64 (X 2)) ∧
    wr.cell? ⟨b, 3, none⟩ = some (.int .u64 (X 3)) ∧ wr.cell? ⟨b, 4, none⟩ = some (.int .u64 (X 4)) ∧ wr.cell? ⟨b, 5, none⟩ = some (.int .u64 (X 5)) :=
  ⟨h.cell 0 (by omega), h.cell 1 (by omega), h.cell 2 (by omega), h.cell 3 (by omega), h.cell 4 (by omega), h.cell 5 (by omega)⟩
theorem Six.of_eq {wr : World} {b : Nat} {X Y : Nat → Nat} (h : Six wr b X) (he : ∀ j, j < 6 → Y j = X j) : Six wr b Y :=
  ⟨fun j hj => by rw [he j hj]; exact h.cell j hj, h.froz⟩
/-- All six places are written. -/
theorem Six.put {w : World} {b : Nat} {X : Nat → Nat} (h : Six w b X) (Y : Nat → Nat) : Six ((((((w.setCell ⟨b, 0, none⟩ (.int .u64 (Y 0))).setCell ⟨b, 1, none⟩ (.int .u64 (Y 1))).setCell ⟨b, 2, none⟩ (.int .u64 (Y 2))).setCell ⟨b, 3, none⟩ (.int .u64 (Y 3))).setCell ⟨b, 4, none⟩ (.int .u64 (Y 4))).setCell ⟨b, 5, none⟩ (.int .u64 (Y 5))) b Y where
  cell := fun j hj => by
    have c := h.cells
    have : j = 0 ∨ j = 1 ∨ j = 2 ∨ j = 3 ∨ j = 4 ∨ j = 5 := by omega
    rcases this with rfl | rfl | rfl | rfl | rfl | rfl <;> simp [go_sem, c]
  froz := fun j => by simp only [World.frozen?_setCell]; exact h.froz j
theorem Six.put_other {w : World} {b c : Nat} {X Y : Nat → Nat} (h : Six w c X) (hn : c ≠ b) : Six ((((((w.setCell ⟨b, 0, none⟩ (.int .u64 (Y 0))).setCell ⟨b, 1, none⟩ (.int .u64 (Y 1))).setCell ⟨b, 2, none⟩ (.int .u64 (Y 2))).setCell ⟨b, 3, none⟩ (.int .u64 (Y 3))).setCell ⟨b, 4, none⟩ (.int .u64 (Y 4))).setCell ⟨b, 5, none⟩ (.int .u64 (Y 5))) c X :=
  (((((h.other hn).other hn).other hn).other hn).other hn).other hn
theorem Ext.put {a w : World} {b : Nat} {Y : Nat → Nat} (h : Ext a w) (hb : a.heap.size ≤ b) : Ext a ((((((w.setCell ⟨b, 0, none⟩ (.int .u64 (Y 0))).setCell ⟨b, 1, none⟩ (.int .u64 (Y 1))).setCell ⟨b, 2, none⟩ (.int .u64 (Y 2))).setCell ⟨b, 3, none⟩ (.int .u64 (Y 3))).setCell ⟨b, 4, none⟩ (.int .u64 (Y 4))).setCell ⟨b, 5, none⟩ (.int .u64 (Y 5))) :=
  (((((h.setCell hb _).setCell hb _).setCell hb _).setCell hb _).setCell hb _).setCell hb _

/-- Block b is just six places. -/
def six (X : Nat → Nat) : Array Value := #[.int .u64 (X 0), .int .u64 (X 1), .int .u64 (X 2), .int .u64 (X 3), .int .u64 (X 4), .int .u64 (X 5)]
def Blk (wr : World) (b : Nat) (X : Nat → Nat) : Prop := ∃ T, wr.heap[b]? = some (.cells (six X) T (0, 0))
theorem Blk.six {wr : World} {b : Nat} {X : Nat → Nat} (h : Blk wr b X) : Six wr b X := by
  obtain ⟨T, h⟩ := h
  refine ⟨fun j hj => ?_, fun j => ?_⟩
  · have : j = 0 ∨ j = 1 ∨ j = 2 ∨ j = 3 ∨ j = 4 ∨ j = 5 := by omega
    rcases this with rfl | rfl | rfl | rfl | rfl | rfl <;> simp [World.cell?, h, Go.Proofs.YtoeahfddnjbhbaaGreatDoor.six]
  · simp [World.frozen?, h]
theorem Blk.lt {wr : World} {b : Nat} {X : Nat → Nat} (h : Blk wr b X) : b < wr.heap.size := h.six.lt
theorem Blk.later {w wr : World} {b : Nat} {X : Nat → Nat} (h : Blk w b X) (hx : Ext w wr) : Blk wr b X := by
  have hl := h.lt
  obtain ⟨T, h⟩ := h
  exact ⟨T, (hx.bel.block b hl).trans h⟩
theorem blk_new (w : World) (X : Nat → Nat) (T : TypeId) : Blk (w.alloc (.cells #[.int .u64 (X 0), .int .u64 (X 1), .int .u64 (X 2), .int .u64 (X 3), .int .u64 (X 4), .int .u64 (X 5)] T)) w.heap.size X :=
  ⟨T, by unfold World.alloc; simp [Go.Proofs.YtoeahfddnjbhbaaGreatDoor.six]⟩
theorem Blk.of_eq {wr : World} {b : Nat} {X Y : Nat → Nat} (h : Blk wr b X) (he : ∀ j, j < 6 → Y j = X j) : Blk wr b Y := by
  obtain ⟨T, h⟩ := h
  refine ⟨T, ?_⟩
  rw [h]; unfold Go.Proofs.YtoeahfddnjbhbaaGreatDoor.six
  rw [he 0 (by omega), he 1 (by omega), he 2 (by omega), he 3 (by omega), he 4 (by omega), he 5 (by omega)]
theorem Blk.row {w : World} {b : Nat} {X : Nat → Nat} (h : Blk w b X) (Y : Nat → Nat) : Blk (w.setRow b (Go.Proofs.YtoeahfddnjbhbaaGreatDoor.six Y)) b Y := by
  obtain ⟨T, h⟩ := h
  exact ⟨T, setRow_heap w b _ _ T _ h⟩
theorem Six.row {w : World} {b c : Nat} {X : Nat → Nat} {cs : Array Value} (h : Six w c X) (hn : c ≠ b) : Six (w.setRow b cs) c X where
  cell := fun j hj => by rw [← h.cell j hj]; simp only [World.cell?, setRow_other w b c cs hn]
  froz := fun j => by rw [← h.froz j]; simp only [World.frozen?, setRow_other w b c cs hn]
theorem Ext.trans' {a w w' : World} (h : Ext a w) (k : Below a.heap.size w w') : Ext a w' := ⟨h.bel.trans k⟩
theorem Ext.row {a w : World} {b : Nat} {cs : Array Value} (h : Ext a w) (hb : a.heap.size ≤ b) : Ext a (w.setRow b cs) :=
  h.trans' ⟨rfl, rfl, rfl, by simp [World.setRow], fun k hk => setRow_other w b k cs (by omega)⟩
theorem Blk.set0 {w : World} {b : Nat} {X Y : Nat → Nat} (h : Blk w b X) {v : Value} (hv : v = .int .u64 (Y 0)) (he : ∀ j, 1 ≤ j → j < 6 → Y j = X j) : Blk (w.setCell ⟨b, 0, none⟩ v) b Y := by
  obtain ⟨T, h⟩ := h
  refine ⟨T, ?_⟩
  simp only [World.setCell, Array.getElem?_modify, h, if_true, Option.map_some]
  unfold Go.Proofs.YtoeahfddnjbhbaaGreatDoor.six
  rw [he 1 (by omega) (by omega), he 2 (by omega) (by omega), he 3 (by omega) (by omega), he 4 (by omega) (by omega), he 5 (by omega) (by omega), hv]
  rfl
/-- Five places go one place up. -/
def upX (X : Nat → Nat) (j : Nat) : Nat := if j = 0 then X 0 else X (j - 1)
end Go.Proofs.YtoeahfddnjbhbaaGreatDoor

namespace Go.Proofs.YtoeahfddnjbhbaaGreatDoor

/-- The bits of a number. -/
def nb (n : Nat) : Nat := if n = 0 then 0 else Nat.log2 n + 1
def M384 : Nat := 2 ^ 384

/-! ### Rounding -/
/-- Mantissa and exponent of the real next to man * 2^exp (more: something above it). -/
def shortV (man : Nat) (exp : Int) (more : Bool) : Nat × Int :=
  let drop : Int := max ((nb man : Int) - 24) (-150 - exp)
  if drop ≤ 0 then (man * 2 ^ (-drop).toNat, exp + drop)
  else if 64 < drop then (0, 0)
  else
    let d := drop.toNat
    let kept := man / 2 ^ d
    let half := 2 ^ (d - 1)
    let dropped := man % 2 ^ d
    let kept2 := if decide (half < dropped) || (decide (dropped = half) && (more || kept % 2 == 1)) then kept + 1 else kept
    if kept2 = 16777216 then (8388608, exp + drop + 1) else (kept2, exp + drop)

/-- The rounded value of a number, if there is one. -/
def roundV (neg : Bool) (man : Nat) (exp : Int) (more : Bool) : Option (Int × Int) :=
  let s := shortV man exp more
  if s.1 = 0 then some (0, 0)
  else if 150 < s.2 then none
  else some (if neg then -(s.1 : Int) else s.1, s.2)

/-- What a guarded operation returns. -/
def okV (r : Option (Int × Int)) : Int × Int := r.getD (0, 0)
def okE (r : Option (Int × Int)) : Int := if r.isSome then 0 else 3

/-! ### Quotients of naturals -/
def rstep (b : Nat) (s : Nat × Nat) : Nat × Nat :=
  if b ≤ s.2 then (s.1 * 2 + 1, (s.2 - b + (s.2 - b)) % M384) else (s.1 * 2, (s.2 + s.2) % M384)
def rsteps (b : Nat) : Nat → Nat × Nat → Nat × Nat
  | 0, s => s
  | k + 1, s => rstep b (rsteps b k s)
def shN (n : Nat) (k : Nat) : Nat := n * 2 ^ k % M384
def ratioE (a b : Nat) : Int := (nb a : Int) - nb b
def ratioS (a b : Nat) : Nat × Nat :=
  let e := ratioE a b
  if 0 < e then rsteps (shN b e.toNat) 32 (0, a) else rsteps b 32 (0, shN a (-e).toNat)

/-! ### Numeric strings -/
def isDg (c : UInt8) : Bool := decide (48 ≤ c.toNat) && decide (c.toNat ≤ 57)
def digs (l : List UInt8) : List UInt8 := l.takeWhile isDg
def rest (l : List UInt8) : List UInt8 := l.dropWhile isDg
def cut1 (c : UInt8) : List UInt8 → List UInt8 × Bool
  | [] => ([], false)
  | a :: r => if a = c then (r, true) else (a :: r, false)
structure Num where
  neg : Bool
  digits : List UInt8
  scale : Int
def expS (n : Int) (c : UInt8) : Int := min (10 * n + ((c.toNat : Int) - 48)) 10000
def expF (l : List UInt8) : Int := l.foldl expS 0
/-- The exponent of a numeric string. -/
def expV (s : List UInt8) : Option Int :=
  let (d0, neg) := cut1 45 s
  let d := if neg then d0 else (cut1 43 s).1
  if digs d = [] ∨ rest d ≠ [] then none
  else some (if neg then -(expF d) else expF d)
def numOf (neg : Bool) (digits : List UInt8) (scale : Int) : Num := ⟨neg, digits.dropWhile (· == 48), scale⟩
def tailV (neg : Bool) (digits : List UInt8) (scale : Int) (s : List UInt8) : Option Num :=
  let (after, found) := cut1 101 s
  if found then (expV after).map fun e => numOf neg digits (scale + e)
  else if s = [] then some (numOf neg digits scale) else none
/-- The parts of a numeric string. -/
def readV (s : List UInt8) : Option Num :=
  if 60 < s.length then none
  else
    let (s1, neg) := cut1 45 s
    let d := digs s1
    let s2 := rest s1
    if d = [] then none
    else
      let (after, found) := cut1 46 s2
      if found then
        if digs after = [] then none
        else tailV neg (d ++ digs after) (-((digs after).length : Int)) (rest after)
      else tailV neg d 0 s2
def decN (n : Nat) (c : UInt8) : Nat := (n * 10 % M384 + (c.toNat - 48)) % M384
def decF (l : List UInt8) : Nat := l.foldl decN 0
/-- The rounded value of a numeric string's parts. -/
def numV (n : Num) : Option (Int × Int) :=
  let point : Int := n.digits.length + n.scale
  if n.digits = [] ∨ point ≤ -46 then some (0, 0)
  else if 53 < point then none
  else
    let a := if 0 ≤ n.scale then decF n.digits * 10 ^ n.scale.toNat % M384 else decF n.digits
    let b := if 0 ≤ n.scale then 1 else 10 ^ (-n.scale).toNat % M384
    let q := ratioS a b
    roundV n.neg q.1 (ratioE a b - 31) (decide (q.2 ≠ 0))
def parseO (s : List UInt8) : Option (Option (Int × Int)) := (readV s).map numV
def rparseV (s : List UInt8) : Int × Int := match readV s with | none => (0, 0) | some n => okV (numV n)
def rparseE (s : List UInt8) : Int := match readV s with | none => 7 | some n => okE (numV n)

example : rparseV "0.1".toUTF8.data.toList = (13421773, -27) ∧ rparseE "0.1".toUTF8.data.toList = 0 := by decide +kernel
example : rparseE "1e60".toUTF8.data.toList = 3 := by decide +kernel
end Go.Proofs.YtoeahfddnjbhbaaGreatDoor

namespace Go.Proofs.YtoeahfddnjbhbaaGreatDoor

structure Dec where
  num : Nat
  below : Nat
  above : Nat
  size : Nat
  point : Int
def decUp : Nat → Dec → Dec
  | 0, d => d
  | f + 1, d => if d.size ≤ d.num then decUp f { d with size := d.size * 10 % M384, point := d.point + 1 } else d
def decDown : Nat → Dec → Dec
  | 0, d => d
  | f + 1, d => if d.num * 10 % M384 < d.size then decDown f { d with num := d.num * 10 % M384, below := d.below * 10 % M384, above := d.above * 10 % M384, point := d.point - 1 } else d
/-- The program's decimalOf, for a mantissa's magnitude and an exponent. -/
def decStart (man : Nat) (x : Int) : Dec :=
  let b := if man = 8388608 ∧ -150 < x then 1 else 2
  if 0 ≤ x then ⟨shN (4 * man) x.toNat, shN b x.toNat, shN 2 x.toNat, 4, 0⟩ else ⟨4 * man, b, 2, shN 4 (-x).toNat, 0⟩
def decV (man : Nat) (x : Int) : Dec := decDown 60 (decUp 60 (decStart man x))
/-- The places of a fraction, one after the other; even: whether the mantissa is. -/
def shortL (even : Bool) (size : Nat) : Nat → Nat → Nat → Nat → List Nat
  | 0, _, _, _ => []
  | f + 1, num, below, above =>
    let n10 := num * 10 % M384
    let digit := n10 / size
    let r := n10 % size
    let bl := below * 10 % M384
    let ab := above * 10 % M384
    let ra := (r + ab) % M384
    let down := decide (r < bl) || (decide (r = bl) && even)
    let up0 := decide (size < ra) || (decide (ra = size) && even)
    let rr := (r + r) % M384
    let up := if down && up0 then decide (size < rr) || (decide (rr = size) && digit % 2 == 1) else up0
    let dg := if up then digit + 1 else digit
    if down || up then [dg] else dg :: shortL even size f r bl ab
/-- The digits and the place of the point (a first digit that became 10 apart). -/
def shortestV (m x : Int) : List Nat × Int :=
  let d := decV m.natAbs x
  let l := shortL (m % 2 == 0) d.size 60 d.num d.below d.above
  if l = [10] then ([1], d.point + 1) else (l, d.point)

example : shortestV 11184811 (-25) = ([3, 3, 3, 3, 3, 3, 3, 4], 0) := by decide +kernel
example : shortestV 1 (-150) = ([7], -45) := by decide +kernel
end Go.Proofs.YtoeahfddnjbhbaaGreatDoor

namespace Go.Proofs.YtoeahfddnjbhbaaGreatDoor
open Go.RowKit

/-- Block b holds 25 values, which may be written. -/
structure Dk (wr : World) (b : Nat) (c : Nat → Value) : Prop where
  cell : ∀ j, j < 25 → wr.cell? ⟨b, j, none⟩ = some (c j)
  froz : ∀ j, wr.frozen? ⟨b, j, none⟩ = false
theorem Dk.lt {wr : World} {b : Nat} {c : Nat → Value} (h : Dk wr b c) : b < wr.heap.size := World.block_lt_of_cell? wr _ (h.cell 0 (by omega))
theorem Dk.later {w wr : World} {b : Nat} {c : Nat → Value} (h : Dk w b c) (hx : Ext w wr) : Dk wr b c :=
  ⟨fun j hj => (hx.cell j h.lt).trans (h.cell j hj), fun j => (hx.froz j h.lt).trans (h.froz j)⟩
theorem Dk.of_eq {wr : World} {b : Nat} {c d : Nat → Value} (h : Dk wr b c) (he : ∀ j, j < 25 → d j = c j) : Dk wr b d :=
  ⟨fun j hj => by rw [he j hj]; exact h.cell j hj, h.froz⟩
theorem Dk.set {w : World} {b k : Nat} {c : Nat → Value} (h : Dk w b c) (hk : k < 25) (v : Value) : Dk (w.setCell ⟨b, k, none⟩ v) b (fun j => if j = k then v else c j) where
  cell := fun j hj => by
    by_cases e : j = k
    · subst e; simp only [if_true]; exact World.cell?_setCell_same' _ _ _ (by rw [h.cell j hj]; rfl)
    · rw [if_neg e, ← h.cell j hj]
      apply World.cell?_setCell_other; intro e2; simp at e2; try exact e e2.symm
  froz := fun j => by rw [World.frozen?_setCell]; exact h.froz j
theorem Dk.other {w : World} {b d k : Nat} {c : Nat → Value} (h : Dk w b c) {v : Value} (hn : b ≠ d) : Dk (w.setCell ⟨d, k, none⟩ v) b c where
  cell := fun j hj => by
    rw [← h.cell j hj]
    apply World.cell?_setCell_other; intro e2; simp at e2; try exact hn e2.1.symm
  froz := fun j => by rw [World.frozen?_setCell]; exact h.froz j
theorem Dk.drew {w : World} {b : Nat} {c : Nat → Value} (h : Dk w b c) : Dk w.drew b c := h.later ((Ext.refl w).drew)

/-- Six setCells from place o on. -/
def put6 (w : World) (b o : Nat) (Y : Nat → Nat) : World :=
  (((((w.setCell ⟨b, o, none⟩ (.int .u64 (Y 0))).setCell ⟨b, o + 1, none⟩ (.int .u64 (Y 1))).setCell ⟨b, o + 2, none⟩ (.int .u64 (Y 2))).setCell ⟨b, o + 3, none⟩ (.int .u64 (Y 3))).setCell ⟨b, o + 4, none⟩ (.int .u64 (Y 4))).setCell ⟨b, o + 5, none⟩ (.int .u64 (Y 5))
theorem Dk.put {w : World} {b o : Nat} {c : Nat → Value} (h : Dk w b c) (ho : o + 6 ≤ 25) (Y : Nat → Nat) : Dk (put6 w b o Y) b (fun j => if o ≤ j ∧ j < o + 6 then .int .u64 (Y (j - o)) else c j) := by
  refine ((((((h.set (k := o) (by omega) _).set (k := o + 1) (by omega) _).set (k := o + 2) (by omega) _).set (k := o + 3) (by omega) _).set (k := o + 4) (by omega) _).set (k := o + 5) (by omega) _).of_eq fun j hj => ?_
  by_cases h1 : o ≤ j ∧ j < o + 6
  · rw [if_pos h1]
    have : j = o ∨ j = o + 1 ∨ j = o + 2 ∨ j = o + 3 ∨ j = o + 4 ∨ j = o + 5 := by omega
    rcases this with rfl | rfl | rfl | rfl | rfl | rfl <;> simp
  · rw [if_neg h1, if_neg (by omega), if_neg (by omega), if_neg (by omega), if_neg (by omega), if_neg (by omega), if_neg (by omega)]
theorem Dk.put_other {w : World} {b d o : Nat} {c : Nat → Value} (h : Dk w b c) {Y : Nat → Nat} (hn : b ≠ d) : Dk (put6 w d o Y) b c :=
  (((((h.other hn).other hn).other hn).other hn).other hn).other hn
theorem Six.put6_other {w : World} {b d o : Nat} {X Y : Nat → Nat} (h : Six w b X) (hn : b ≠ d) : Six (put6 w d o Y) b X :=
  (((((h.other hn).other hn).other hn).other hn).other hn).other hn
theorem Ext.put6 {a w : World} {b o : Nat} {Y : Nat → Nat} (h : Ext a w) (hb : a.heap.size ≤ b) : Ext a (put6 w b o Y) :=
  (((((h.setCell hb _).setCell hb _).setCell hb _).setCell hb _).setCell hb _).setCell hb _

/-- The 25 values. -/
def dF (n bl ab sz : Nat) (pt : Int) (j : Nat) : Value :=
  if j < 6 then .int .u64 (L n j) else if j < 12 then .int .u64 (L bl (j - 6)) else if j < 18 then .int .u64 (L ab (j - 12)) else if j < 24 then .int .u64 (L sz (j - 18)) else .int .i64 pt
theorem Dk.num {w : World} {b n bl ab sz : Nat} {pt : Int} (h : Dk w b (dF n bl ab sz pt)) : w.cell? ⟨b, 0, none⟩ = some (.int .u64 (L n 0)) ∧ w.cell? ⟨b, 1, none⟩ = some (.int .u64 (L n 1)) ∧ w.cell? ⟨b, 2, none⟩ = some (.int .u64 (L n 2)) ∧ w.cell? ⟨b, 3, none⟩ = some (.int .u64 (L n 3)) ∧ w.cell? ⟨b, 4, none⟩ = some (.int .u64 (L n 4)) ∧ w.cell? ⟨b, 5, none⟩ = some (.int .u64 (L n 5)) :=
  ⟨h.cell 0 (by omega), h.cell 1 (by omega), h.cell 2 (by omega), h.cell 3 (by omega), h.cell 4 (by omega), h.cell 5 (by omega)⟩
theorem Dk.bel {w : World} {b n bl ab sz : Nat} {pt : Int} (h : Dk w b (dF n bl ab sz pt)) : w.cell? ⟨b, 6, none⟩ = some (.int .u64 (L bl 0)) ∧ w.cell? ⟨b, 7, none⟩ = some (.int .u64 (L bl 1)) ∧ w.cell? ⟨b, 8, none⟩ = some (.int .u64 (L bl 2)) ∧ w.cell? ⟨b, 9, none⟩ = some (.int .u64 (L bl 3)) ∧ w.cell? ⟨b, 10, none⟩ = some (.int .u64 (L bl 4)) ∧ w.cell? ⟨b, 11, none⟩ = some (.int .u64 (L bl 5)) :=
  ⟨h.cell 6 (by omega), h.cell 7 (by omega), h.cell 8 (by omega), h.cell 9 (by omega), h.cell 10 (by omega), h.cell 11 (by omega)⟩
theorem Dk.abv {w : World} {b n bl ab sz : Nat} {pt : Int} (h : Dk w b (dF n bl ab sz pt)) : w.cell? ⟨b, 12, none⟩ = some (.int .u64 (L ab 0)) ∧ w.cell? ⟨b, 13, none⟩ = some (.int .u64 (L ab 1)) ∧ w.cell? ⟨b, 14, none⟩ = some (.int .u64 (L ab 2)) ∧ w.cell? ⟨b, 15, none⟩ = some (.int .u64 (L ab 3)) ∧ w.cell? ⟨b, 16, none⟩ = some (.int .u64 (L ab 4)) ∧ w.cell? ⟨b, 17, none⟩ = some (.int .u64 (L ab 5)) :=
  ⟨h.cell 12 (by omega), h.cell 13 (by omega), h.cell 14 (by omega), h.cell 15 (by omega), h.cell 16 (by omega), h.cell 17 (by omega)⟩
theorem Dk.siz {w : World} {b n bl ab sz : Nat} {pt : Int} (h : Dk w b (dF n bl ab sz pt)) : w.cell? ⟨b, 18, none⟩ = some (.int .u64 (L sz 0)) ∧ w.cell? ⟨b, 19, none⟩ = some (.int .u64 (L sz 1)) ∧ w.cell? ⟨b, 20, none⟩ = some (.int .u64 (L sz 2)) ∧ w.cell? ⟨b, 21, none⟩ = some (.int .u64 (L sz 3)) ∧ w.cell? ⟨b, 22, none⟩ = some (.int .u64 (L sz 4)) ∧ w.cell? ⟨b, 23, none⟩ = some (.int .u64 (L sz 5)) :=
  ⟨h.cell 18 (by omega), h.cell 19 (by omega), h.cell 20 (by omega), h.cell 21 (by omega), h.cell 22 (by omega), h.cell 23 (by omega)⟩
theorem Dk.pnt {w : World} {b n bl ab sz : Nat} {pt : Int} (h : Dk w b (dF n bl ab sz pt)) : w.cell? ⟨b, 24, none⟩ = some (.int .i64 pt) := h.cell 24 (by omega)
theorem Dk.putN {w : World} {b n bl ab sz : Nat} {pt : Int} (h : Dk w b (dF n bl ab sz pt)) (y : Nat) : Dk (put6 w b 0 (L y)) b (dF y bl ab sz pt) :=
  (h.put (o := 0) (by omega) (L y)).of_eq fun j hj => by unfold dF; by_cases e : j < 6 <;> simp [e]
theorem Dk.putB {w : World} {b n bl ab sz : Nat} {pt : Int} (h : Dk w b (dF n bl ab sz pt)) (y : Nat) : Dk (put6 w b 6 (L y)) b (dF n y ab sz pt) :=
  (h.put (o := 6) (by omega) (L y)).of_eq fun j hj => by
    unfold dF
    by_cases e1 : j < 6 <;> by_cases e2 : j < 12 <;> by_cases e3 : j < 18 <;> by_cases e4 : j < 24 <;> by_cases e : 6 ≤ j ∧ j < 6 + 6 <;> (first | (exfalso; omega) | ((first | rw [if_pos e] | rw [if_neg e]) <;> simp only [e1, e2, e3, e4, if_true, if_false]))
theorem Dk.putA {w : World} {b n bl ab sz : Nat} {pt : Int} (h : Dk w b (dF n bl ab sz pt)) (y : Nat) : Dk (put6 w b 12 (L y)) b (dF n bl y sz pt) :=
  (h.put (o := 12) (by omega) (L y)).of_eq fun j hj => by
    unfold dF
    by_cases e1 : j < 6 <;> by_cases e2 : j < 12 <;> by_cases e3 : j < 18 <;> by_cases e4 : j < 24 <;> by_cases e : 12 ≤ j ∧ j < 12 + 6 <;> (first | (exfalso; omega) | ((first | rw [if_pos e] | rw [if_neg e]) <;> simp only [e1, e2, e3, e4, if_true, if_false]))
theorem Dk.putS {w : World} {b n bl ab sz : Nat} {pt : Int} (h : Dk w b (dF n bl ab sz pt)) (y : Nat) : Dk (put6 w b 18 (L y)) b (dF n bl ab y pt) :=
  (h.put (o := 18) (by omega) (L y)).of_eq fun j hj => by
    unfold dF
    by_cases e1 : j < 6 <;> by_cases e2 : j < 12 <;> by_cases e3 : j < 18 <;> by_cases e4 : j < 24 <;> by_cases e : 18 ≤ j ∧ j < 18 + 6 <;> (first | (exfalso; omega) | ((first | rw [if_pos e] | rw [if_neg e]) <;> simp only [e1, e2, e3, e4, if_true, if_false]))
theorem Dk.putP {w : World} {b n bl ab sz : Nat} {pt : Int} (h : Dk w b (dF n bl ab sz pt)) (q : Int) : Dk (w.setCell ⟨b, 24, none⟩ (.int .i64 q)) b (dF n bl ab sz q) :=
  (h.set (k := 24) (by omega) (.int .i64 q)).of_eq fun j hj => by
    unfold dF
    by_cases e : j = 24
    · subst e; simp
    · rw [if_neg e]
      by_cases e1 : j < 6 <;> by_cases e2 : j < 12 <;> by_cases e3 : j < 18 <;> by_cases e4 : j < 24 <;> simp [e1, e2, e3, e4] <;> omega
/-- What lies modulo 2^384 has the same places. -/
theorem Dk.same {w : World} {b n bl ab sz n' bl' ab' sz' : Nat} {pt : Int} (h : Dk w b (dF n bl ab sz pt)) (h1 : ∀ j, j < 6 → L n' j = L n j) (h2 : ∀ j, j < 6 → L bl' j = L bl j) (h3 : ∀ j, j < 6 → L ab' j = L ab j) (h4 : ∀ j, j < 6 → L sz' j = L sz j) : Dk w b (dF n' bl' ab' sz' pt) :=
  h.of_eq fun j hj => by
    unfold dF
    by_cases e1 : j < 6
    · simp [e1, h1 j e1]
    · by_cases e2 : j < 12
      · simp [e1, e2, h2 (j - 6) (by omega)]
      · by_cases e3 : j < 18
        · simp [e1, e2, e3, h3 (j - 12) (by omega)]
        · by_cases e4 : j < 24
          · simp [e1, e2, e3, e4, h4 (j - 18) (by omega)]
          · simp [e1, e2, e3, e4]
theorem dk_new (w : World) (n bl ab sz : Nat) (pt : Int) (T : TypeId) : Dk (w.alloc (.cells #[.int .u64 (L n 0), .int .u64 (L n 1), .int .u64 (L n 2), .int .u64 (L n 3), .int .u64 (L n 4), .int .u64 (L n 5), .int .u64 (L bl 0), .int .u64 (L bl 1), .int .u64 (L bl 2), .int .u64 (L bl 3), .int .u64 (L bl 4), .int .u64 (L bl 5), .int .u64 (L ab 0), .int .u64 (L ab 1), .int .u64 (L ab 2), .int .u64 (L ab 3), .int .u64 (L ab 4), .int .u64 (L ab 5), .int .u64 (L sz 0), .int .u64 (L sz 1), .int .u64 (L sz 2), .int .u64 (L sz 3), .int .u64 (L sz 4), .int .u64 (L sz 5), .int .i64 pt] T)) w.heap.size (dF n bl ab sz pt) where
  cell := fun j hj => by
    have : j = 0 ∨ j = 1 ∨ j = 2 ∨ j = 3 ∨ j = 4 ∨ j = 5 ∨ j = 6 ∨ j = 7 ∨ j = 8 ∨ j = 9 ∨ j = 10 ∨ j = 11 ∨ j = 12 ∨ j = 13 ∨ j = 14 ∨ j = 15 ∨ j = 16 ∨ j = 17 ∨ j = 18 ∨ j = 19 ∨ j = 20 ∨ j = 21 ∨ j = 22 ∨ j = 23 ∨ j = 24 := by omega
    rcases this with rfl | rfl | rfl | rfl | rfl | rfl | rfl | rfl | rfl | rfl | rfl | rfl | rfl | rfl | rfl | rfl | rfl | rfl | rfl | rfl | rfl | rfl | rfl | rfl | rfl <;> simp [go_sem, dF]
  froz := fun j => by simp [go_sem]
end Go.Proofs.YtoeahfddnjbhbaaGreatDoor

namespace Go.Proofs.YtoeahfddnjbhbaaGreatDoor

def N6 : Nat := B64 ^ 6
theorem N6_eq : N6 = 2 ^ 384 := by decide +kernel
def cmpN (n m : Nat) : Int := if n < m then -1 else if m < n then 1 else 0
theorem eq_of_places {n m : Nat} (hn : n < N6) (hm : m < N6) (h : ∀ j, j < 6 → L n j = L m j) : n = m := by
  have := limbs_inj B64_pos 6 n m h
  unfold N6 at hn hm
  rwa [Nat.mod_eq_of_lt hn, Nat.mod_eq_of_lt hm] at this
theorem cmp_at {n m q : Nat} (hn : n < N6) (hm : m < N6) (hq : q < 6) (he : ∀ j, q < j → j < 6 → L n j = L m j) (h : L n q ≠ L m q) : cmpN n m = cmpN (L n q) (L m q) := by
  rcases Nat.lt_or_gt_of_ne h with h1 | h1
  · have := limb_lt_at B64_pos hn hm hq he h1
    unfold cmpN; rw [if_pos this, if_pos h1]
  · have := limb_lt_at B64_pos hm hn hq (fun j a b => (he j a b).symm) h1
    unfold cmpN; rw [if_neg (by omega), if_pos this, if_neg (by omega), if_pos h1]
theorem cmp_same (n : Nat) : cmpN n n = 0 := by unfold cmpN; simp

theorem nb_of {n k : Nat} (h1 : 2 ^ k ≤ n) (h2 : n < 2 ^ (k + 1)) : nb n = k + 1 := by
  have hp : 0 < 2 ^ k := Nat.pow_pos (by omega)
  unfold nb
  rw [if_neg (by omega)]
  have a := Nat.log2_self_le (n := n) (by omega)
  have b := Nat.lt_log2_self (n := n)
  have c1 : k < n.log2 + 1 := (Nat.pow_lt_pow_iff_right (by omega)).1 (Nat.lt_of_le_of_lt h1 b)
  have c2 : n.log2 < k + 1 := (Nat.pow_lt_pow_iff_right (by omega)).1 (Nat.lt_of_le_of_lt a h2)
  omega
theorem nb_zero : nb 0 = 0 := rfl
theorem nb_lo {n : Nat} (h : n ≠ 0) : 1 ≤ nb n ∧ 2 ^ (nb n - 1) ≤ n ∧ n < 2 ^ nb n := by
  unfold nb; rw [if_neg h]
  exact ⟨by omega, by simpa using Nat.log2_self_le h, Nat.lt_log2_self⟩
theorem nb_bitLen {x : Nat} (h : x < 18446744073709551616) : Lib.bitLen x = nb x := by
  by_cases h0 : x = 0
  · subst h0; rw [nb_zero]; exact Lib.bitLenAux_zero 64
  · obtain ⟨a, b, c⟩ := Lib.bitLenAux_bounds 64 x h h0
    have e : nb x = Lib.bitLenAux 64 x - 1 + 1 := nb_of b (by rw [Nat.sub_add_cancel a]; exact c)
    unfold Lib.bitLen; omega
theorem low_of {n q : Nat} (hn : n < N6) (hq : q < 6) (hz : ∀ j, q < j → j < 6 → L n j = 0) : n % B64 ^ (q + 1) = n := by
  have hlt : n % B64 ^ (q + 1) < B64 ^ (q + 1) := Nat.mod_lt _ (Nat.pow_pos B64_pos)
  have hlt6 : n % B64 ^ (q + 1) < N6 := Nat.lt_of_lt_of_le hlt (Nat.pow_le_pow_right B64_pos (by omega))
  refine eq_of_places hlt6 hn fun j hj => ?_
  by_cases h : j < q + 1
  · exact limb_mod B64_pos n h
  · rw [hz j (by omega) hj]
    unfold L limb
    rw [Nat.div_eq_of_lt (Nat.lt_of_lt_of_le hlt (Nat.pow_le_pow_right B64_pos (by omega)))]
    rfl
theorem nb_at {n q : Nat} (hn : n < N6) (hq : q < 6) (hz : ∀ j, q < j → j < 6 → L n j = 0) (h : L n q ≠ 0) : nb n = 64 * q + nb (L n q) := by
  have h1 := low_of hn hq hz
  rw [mod_succ_at] at h1
  have hp : 0 < B64 ^ q := Nat.pow_pos B64_pos
  have h2 := Nat.mod_lt n hp
  obtain ⟨a, b, c⟩ := nb_lo h
  have e : B64 ^ q = 2 ^ (64 * q) := by rw [show B64 = 2 ^ 64 by decide, ← Nat.pow_mul]
  have hL : limb B64 n q = L n q := rfl
  rw [hL] at h1
  generalize L n q = x at *
  generalize hy : n % B64 ^ q = y at *
  have g1 : 2 ^ (64 * q + (nb x - 1)) ≤ n := by
    rw [Nat.pow_add, ← e]
    calc B64 ^ q * 2 ^ (nb x - 1) ≤ B64 ^ q * x := Nat.mul_le_mul_left _ b
      _ ≤ n := by omega
  have g2 : n < 2 ^ (64 * q + (nb x - 1) + 1) := by
    rw [show 64 * q + (nb x - 1) + 1 = 64 * q + nb x by omega, Nat.pow_add, ← e]
    calc n < B64 ^ q * (x + 1) := by rw [Nat.mul_succ]; omega
      _ ≤ B64 ^ q * 2 ^ nb x := Nat.mul_le_mul_left _ c
  rw [nb_of g1 g2]; omega
theorem zero_of_places {n : Nat} (hn : n < N6) (h : ∀ j, j < 6 → L n j = 0) : n = 0 :=
  eq_of_places hn (by decide +kernel) fun j hj => by rw [h j hj]; exact (limb_zero _ _).symm
theorem nb_le64 {x : Nat} (h : x < 18446744073709551616) : nb x ≤ 64 := by
  by_cases h0 : x = 0
  · subst h0; rw [nb_zero]; omega
  · obtain ⟨a, b, c⟩ := nb_lo h0
    have : 2 ^ (nb x - 1) < 2 ^ 64 := Nat.lt_of_le_of_lt b h
    have := (Nat.pow_lt_pow_iff_right (by omega)).1 this
    omega
end Go.Proofs.YtoeahfddnjbhbaaGreatDoor

namespace Go.Proofs.YtoeahfddnjbhbaaGreatDoor
open Go.RowKit

/-- How many bits are dropped. -/
def dropV (man : Nat) (exp : Int) : Int := max ((nb man : Int) - 24) (-150 - exp)
theorem short_none {man : Nat} {exp : Int} {more : Bool} (h : dropV man exp ≤ 0) : shortV man exp more = (man * 2 ^ (-(dropV man exp)).toNat, exp + dropV man exp) := by
  unfold shortV; simp only; rw [if_pos (show max ((nb man : Int) - 24) (-150 - exp) ≤ 0 from h)]; rfl
theorem short_far {man : Nat} {exp : Int} {more : Bool} (h : 64 < dropV man exp) : shortV man exp more = (0, 0) := by
  unfold shortV; simp only; rw [if_neg (show ¬ max ((nb man : Int) - 24) (-150 - exp) ≤ 0 by unfold dropV at h; omega), if_pos (show 64 < max ((nb man : Int) - 24) (-150 - exp) from h)]
def upB (man D : Nat) (more : Bool) : Bool := decide (2 ^ (D - 1) < man % 2 ^ D) || (decide (man % 2 ^ D = 2 ^ (D - 1)) && (more || man / 2 ^ D % 2 == 1))
theorem short_at {man D : Nat} {exp : Int} {more : Bool} (h : dropV man exp = D) (h1 : 1 ≤ D) (h2 : D ≤ 64) :
    shortV man exp more = if (if upB man D more then man / 2 ^ D + 1 else man / 2 ^ D) = 16777216 then (8388608, exp + D + 1) else (if upB man D more then man / 2 ^ D + 1 else man / 2 ^ D, exp + D) := by
  have e : max ((nb man : Int) - 24) (-150 - exp) = D := h
  unfold shortV; simp only
  rw [e, if_neg (by omega), if_neg (by omega)]
  simp only [Int.toNat_natCast]
  rfl
theorem keep_lt {man D : Nat} (h : (nb man : Int) - 24 ≤ D) : man / 2 ^ D < 16777216 := by
  by_cases h0 : man = 0
  · subst h0; simp
  · obtain ⟨a, b, c⟩ := nb_lo h0
    refine Nat.div_lt_of_lt_mul ?_
    calc man < 2 ^ nb man := c
      _ ≤ 2 ^ (D + 24) := Nat.pow_le_pow_right (by omega) (by omega)
      _ = 2 ^ D * 16777216 := by rw [Nat.pow_add]
theorem grow_lt {man : Nat} {d : Int} (h : (nb man : Int) - 24 ≤ d) (hd : d ≤ 0) : man * 2 ^ (-d).toNat < 16777216 := by
  by_cases h0 : man = 0
  · subst h0; simp
  · obtain ⟨a, b, c⟩ := nb_lo h0
    calc man * 2 ^ (-d).toNat < 2 ^ nb man * 2 ^ (-d).toNat := Nat.mul_lt_mul_of_pos_right c (Nat.pow_pos (by omega))
      _ = 2 ^ (nb man + (-d).toNat) := (Nat.pow_add _ _ _).symm
      _ ≤ 2 ^ 24 := Nat.pow_le_pow_right (by omega) (by omega)
      _ = 16777216 := by decide
theorem short_bound {man : Nat} {exp : Int} (more : Bool) : (shortV man exp more).1 < 16777216 := by
  have hn : (nb man : Int) - 24 ≤ dropV man exp := by unfold dropV; omega
  by_cases h1 : dropV man exp ≤ 0
  · rw [short_none h1]; exact grow_lt hn h1
  · by_cases h2 : 64 < dropV man exp
    · rw [short_far h2]; decide
    · obtain ⟨D, hD⟩ : ∃ D : Nat, dropV man exp = D := ⟨(dropV man exp).toNat, by omega⟩
      have k := keep_lt (man := man) (D := D) (by omega)
      rw [short_at hD (by omega) (by omega)]
      generalize man / 2 ^ D = K at *
      cases upB man D more
      · simp only [Bool.false_eq_true, if_false]
        rw [if_neg (by omega)]; exact k
      · simp only [if_true]
        by_cases h : K + 1 = 16777216
        · rw [if_pos h]; show (8388608 : Nat) < 16777216; omega
        · rw [if_neg h]; show K + 1 < 16777216; omega
end Go.Proofs.YtoeahfddnjbhbaaGreatDoor

namespace Go.Proofs.YtoeahfddnjbhbaaGreatDoor
open Go.RowKit

theorem M_eq : M384 = B64 ^ 6 := by decide +kernel
theorem M_N6 : M384 = N6 := M_eq
theorem M_pos : 0 < M384 := by decide +kernel
theorem L_mod (x : Nat) {j : Nat} (h : j < 6) : L (x % M384) j = L x j := by
  unfold L; rw [M_eq]; exact limb_mod B64_pos x h
theorem mod_N6 (x : Nat) : x % M384 < N6 := by rw [← M_N6]; exact Nat.mod_lt _ M_pos
theorem shN_lt (n k : Nat) : shN n k < N6 := mod_N6 _
theorem rstep_lt {b : Nat} {s : Nat × Nat} : (rstep b s).2 < N6 := by
  unfold rstep; split <;> exact mod_N6 _
theorem rsteps_lt {b a : Nat} (h : a < N6) (m k : Nat) : (rsteps b k (m, a)).2 < N6 := by
  cases k with
  | zero => exact h
  | succ k => exact rstep_lt
theorem rstep_man {b : Nat} {s : Nat × Nat} : (rstep b s).1 ≤ s.1 * 2 + 1 := by
  unfold rstep; split
  · exact Nat.le_refl _
  · exact Nat.le_succ _
theorem rsteps_man (b a k : Nat) : (rsteps b k (0, a)).1 < 2 ^ k := by
  induction k with
  | zero => simp [rsteps]
  | succ k ih =>
    have h := rstep_man (b := b) (s := rsteps b k (0, a))
    have e : rsteps b (k + 1) (0, a) = rstep b (rsteps b k (0, a)) := rfl
    rw [e, Nat.pow_succ]; omega
theorem rsteps_man32 (b a : Nat) {k : Nat} (h : k ≤ 32) : (rsteps b k (0, a)).1 < 4294967296 :=
  Nat.lt_of_lt_of_le (rsteps_man b a k) (Nat.pow_le_pow_right (n := 2) (by omega) h)
/-- A round of the division, by what is left. -/
theorem rsteps_ge {b a k : Nat} (h : b ≤ (rsteps b k (0, a)).2) : rsteps b (k + 1) (0, a) = ((rsteps b k (0, a)).1 * 2 + 1, ((rsteps b k (0, a)).2 - b + ((rsteps b k (0, a)).2 - b)) % M384) := by
  show rstep b _ = _
  unfold rstep; rw [if_pos h]
theorem rsteps_lt' {b a k : Nat} (h : ¬ b ≤ (rsteps b k (0, a)).2) : rsteps b (k + 1) (0, a) = ((rsteps b k (0, a)).1 * 2, ((rsteps b k (0, a)).2 + (rsteps b k (0, a)).2) % M384) := by
  show rstep b _ = _
  unfold rstep; rw [if_neg h]

/-- Block b is an exact number that is still zero. -/
structure Ex4 (wr : World) (b : Nat) : Prop where
  c0 : wr.cell? ⟨b, 0, none⟩ = some (.bool false)
  c1 : wr.cell? ⟨b, 1, none⟩ = some (.int .u64 0)
  c2 : wr.cell? ⟨b, 2, none⟩ = some (.int .i64 0)
  c3 : wr.cell? ⟨b, 3, none⟩ = some (.bool false)
  froz : ∀ j, wr.frozen? ⟨b, j, none⟩ = false
theorem Ex4.lt {wr : World} {b : Nat} (h : Ex4 wr b) : b < wr.heap.size := World.block_lt_of_cell? wr _ h.c0
theorem Ex4.later {w wr : World} {b : Nat} (h : Ex4 w b) (hx : Ext w wr) : Ex4 wr b :=
  ⟨(hx.cell 0 h.lt).trans h.c0, (hx.cell 1 h.lt).trans h.c1, (hx.cell 2 h.lt).trans h.c2, (hx.cell 3 h.lt).trans h.c3, fun j => (hx.froz j h.lt).trans (h.froz j)⟩
theorem Ex4.other {w : World} {b c k : Nat} {v : Value} (h : Ex4 w b) (hn : b ≠ c) : Ex4 (w.setCell ⟨c, k, none⟩ v) b := by
  have o : ∀ j, (w.setCell ⟨c, k, none⟩ v).cell? ⟨b, j, none⟩ = w.cell? ⟨b, j, none⟩ := fun j => by
    apply World.cell?_setCell_other; intro e2; simp at e2; try exact hn e2.1.symm
  exact ⟨(o 0).trans h.c0, (o 1).trans h.c1, (o 2).trans h.c2, (o 3).trans h.c3, fun j => by rw [World.frozen?_setCell]; exact h.froz j⟩
theorem Ex4.put_other {w : World} {b c : Nat} {Y : Nat → Nat} (h : Ex4 w b) (hn : b ≠ c) : Ex4 ((((((w.setCell ⟨c, 0, none⟩ (.int .u64 (Y 0))).setCell ⟨c, 1, none⟩ (.int .u64 (Y 1))).setCell ⟨c, 2, none⟩ (.int .u64 (Y 2))).setCell ⟨c, 3, none⟩ (.int .u64 (Y 3))).setCell ⟨c, 4, none⟩ (.int .u64 (Y 4))).setCell ⟨c, 5, none⟩ (.int .u64 (Y 5))) b :=
  (((((h.other hn).other hn).other hn).other hn).other hn).other hn
theorem ex4_new (w : World) (T : TypeId) : Ex4 (w.alloc (.cells #[.bool false, .int .u64 0, .int .i64 0, .bool false] T)) w.heap.size := by
  refine ⟨?_, ?_, ?_, ?_, fun j => ?_⟩ <;> simp [go_sem]
end Go.Proofs.YtoeahfddnjbhbaaGreatDoor

namespace Go.Proofs.YtoeahfddnjbhbaaGreatDoor
open Go.RowKit

def upS (d : Dec) : Dec := { d with size := d.size * 10 % M384, point := d.point + 1 }
def downS (d : Dec) : Dec := { d with num := d.num * 10 % M384, below := d.below * 10 % M384, above := d.above * 10 % M384, point := d.point - 1 }
/-- The loop ends within so many rounds. -/
def upDone : Nat → Dec → Bool
  | 0, d => decide (d.num < d.size)
  | f + 1, d => if d.size ≤ d.num then upDone f (upS d) else true
def downDone : Nat → Dec → Bool
  | 0, d => decide (d.size ≤ d.num * 10 % M384)
  | f + 1, d => if d.num * 10 % M384 < d.size then downDone f (downS d) else true
theorem up_go {k : Nat} {d : Dec} (h : upDone k d = true) (hc : d.size ≤ d.num) : ∃ j, k = j + 1 ∧ upDone j (upS d) = true ∧ decUp k d = decUp j (upS d) := by
  cases k with
  | zero => unfold upDone at h; simp at h; omega
  | succ j => unfold upDone at h; rw [if_pos hc] at h; exact ⟨j, rfl, h, by conv => lhs; unfold decUp
                                                                            rw [if_pos hc]; rfl⟩
theorem up_stop {k : Nat} {d : Dec} (hc : ¬ d.size ≤ d.num) : decUp k d = d := by
  cases k with
  | zero => rfl
  | succ j => unfold decUp; rw [if_neg hc]
theorem down_go {k : Nat} {d : Dec} (h : downDone k d = true) (hc : d.num * 10 % M384 < d.size) : ∃ j, k = j + 1 ∧ downDone j (downS d) = true ∧ decDown k d = decDown j (downS d) := by
  cases k with
  | zero => unfold downDone at h; simp at h; omega
  | succ j => unfold downDone at h; rw [if_pos hc] at h; exact ⟨j, rfl, h, by conv => lhs; unfold decDown
                                                                              rw [if_pos hc]; rfl⟩
theorem down_stop {k : Nat} {d : Dec} (hc : ¬ d.num * 10 % M384 < d.size) : decDown k d = d := by
  cases k with
  | zero => rfl
  | succ j => unfold decDown; rw [if_neg hc]
structure SmallD (d : Dec) : Prop where
  num : d.num < N6
  below : d.below < N6
  above : d.above < N6
  size : d.size < N6
theorem SmallD.up {d : Dec} (h : SmallD d) : SmallD (upS d) := ⟨h.num, h.below, h.above, mod_N6 _⟩
theorem SmallD.down {d : Dec} (h : SmallD d) : SmallD (downS d) := ⟨mod_N6 _, mod_N6 _, mod_N6 _, h.size⟩

def dV (d : Dec) : Nat → Value := dF d.num d.below d.above d.size d.point
/-- The blocks of decimalOf: the parameter's, the result's, the decimal's. -/
structure DD (w u : World) (c : Nat → Value) (x : Int) : Prop where
  d : Dk u (w.heap.size + 1 + 1) c
  r : Dk u (w.heap.size + 1) (dF 0 0 0 0 0)
  x : u.cell? ⟨w.heap.size, 1, none⟩ = some (.int .i64 x)
  e : Ext w u
theorem DD.later {w u u' : World} {c : Nat → Value} {x : Int} (h : DD w u c x) (hx : Ext u u') : DD w u' c x :=
  ⟨h.d.later hx, h.r.later hx, (hx.cell 1 (World.block_lt_of_cell? u _ h.x)).trans h.x, h.e.trans hx⟩
theorem DD.drew {w u : World} {c : Nat → Value} {x : Int} (h : DD w u c x) : DD w u.drew c x := h.later ((Ext.refl u).drew)
theorem DD.other {w u : World} {c : Nat → Value} {x : Int} (h : DD w u c x) {k : Nat} (hk : k < 25) (v : Value) : DD w (u.setCell ⟨w.heap.size + 1 + 1, k, none⟩ v) (fun j => if j = k then v else c j) x :=
  ⟨h.d.set hk v, h.r.other (by omega), by rw [← h.x]; apply World.cell?_setCell_other; intro e; simp at e, h.e.setCell (by simp; omega) v⟩
theorem DD.put {w u : World} {c c' : Nat → Value} {x : Int} {o : Nat} {Y : Nat → Nat} (h : DD w u c x) (hd : Dk (put6 u (w.heap.size + 1 + 1) o Y) (w.heap.size + 1 + 1) c') (ho : o + 6 ≤ 25) : DD w (put6 u (w.heap.size + 1 + 1) o Y) c' x := by
  have := (((((h.other (k := o) (by omega) (.int .u64 (Y 0))).other (k := o + 1) (by omega) (.int .u64 (Y 1))).other (k := o + 2) (by omega) (.int .u64 (Y 2))).other (k := o + 3) (by omega) (.int .u64 (Y 3))).other (k := o + 4) (by omega) (.int .u64 (Y 4))).other (k := o + 5) (by omega) (.int .u64 (Y 5))
  exact ⟨hd, this.r, this.x, this.e⟩
theorem DD.pt {w u : World} {d : Dec} {x : Int} (h : DD w u (dV d) x) (q : Int) : DD w (u.setCell ⟨w.heap.size + 1 + 1, 24, none⟩ (.int .i64 q)) (dV { d with point := q }) x :=
  have := h.other (k := 24) (by omega) (.int .i64 q)
  ⟨h.d.putP q, this.r, this.x, this.e⟩
theorem DD.num {w u : World} {d : Dec} {x : Int} (h : DD w u (dV d) x) (y : Nat) : DD w (put6 u (w.heap.size + 1 + 1) 0 (L y)) (dV { d with num := y }) x := h.put (h.d.putN y) (by omega)
theorem DD.bel {w u : World} {d : Dec} {x : Int} (h : DD w u (dV d) x) (y : Nat) : DD w (put6 u (w.heap.size + 1 + 1) 6 (L y)) (dV { d with below := y }) x := h.put (h.d.putB y) (by omega)
theorem DD.abv {w u : World} {d : Dec} {x : Int} (h : DD w u (dV d) x) (y : Nat) : DD w (put6 u (w.heap.size + 1 + 1) 12 (L y)) (dV { d with above := y }) x := h.put (h.d.putA y) (by omega)
theorem DD.siz {w u : World} {d : Dec} {x : Int} (h : DD w u (dV d) x) (y : Nat) : DD w (put6 u (w.heap.size + 1 + 1) 18 (L y)) (dV { d with size := y }) x := h.put (h.d.putS y) (by omega)
theorem DD.same {w u : World} {d d' : Dec} {x : Int} (h : DD w u (dV d) x) (hp : d'.point = d.point) (h1 : ∀ j, j < 6 → L d'.num j = L d.num j) (h2 : ∀ j, j < 6 → L d'.below j = L d.below j) (h3 : ∀ j, j < 6 → L d'.above j = L d.above j) (h4 : ∀ j, j < 6 → L d'.size j = L d.size j) : DD w u (dV d') x := by
  have := h.d.same h1 h2 h3 h4
  unfold dV; rw [hp]
  exact ⟨this, h.r, h.x, h.e⟩
theorem Dk.there {u : World} {b o n : Nat} {c : Nat → Value} (h : Dk u b c) (ho : o + n ≤ 25) : u.there b o n := fun j hj => ⟨by rw [h.cell (o + j) (by omega)]; rfl, h.froz _⟩
theorem put6_eq (u : World) (b o : Nat) (Y : Nat → Nat) : u.setCells b o [.int .u64 (Y 0), .int .u64 (Y 1), .int .u64 (Y 2), .int .u64 (Y 3), .int .u64 (Y 4), .int .u64 (Y 5)] = put6 u b o Y := rfl
/-- A whole block is written. -/
theorem dk_row {u : World} {b : Nat} {old vs : Array Value} {T : TypeId} {c : Nat → Value} (h : u.heap[b]? = some (.cells old T (0, 0))) (hv : ∀ j, j < 25 → vs[j]? = some (c j)) : Dk (u.setRow b vs) b c := by
  have := setRow_heap u b old vs T (0, 0) h
  exact ⟨fun j hj => by simp [World.cell?, this, hv j hj], fun j => by simp [World.frozen?, this]⟩
theorem Dk.rowOther {u : World} {b d : Nat} {vs : Array Value} {c : Nat → Value} (h : Dk u b c) (hn : b ≠ d) : Dk (u.setRow d vs) b c where
  cell := fun j hj => by rw [← h.cell j hj]; simp only [World.cell?, setRow_other u d b vs hn]
  froz := fun j => by rw [← h.froz j]; simp only [World.frozen?, setRow_other u d b vs hn]
theorem alloc_new (u : World) (o : Obj) {n : Nat} (h : n = u.heap.size) : (u.alloc o).heap[n]? = some o := by subst h; unfold World.alloc; simp
theorem L_lit0 {n : Nat} (h : n < 18446744073709551616) : L n 0 = n := limb_small h
theorem L_lit {n j : Nat} (h : n < 18446744073709551616) (hj : 1 ≤ j) : L n j = 0 := limb_small' h hj
theorem dd_start (w : World) (m x : Int) (man : Nat) (h : man < 18446744073709551) (T1 T2 T3 : TypeId) :
    DD w ((((w.alloc (.cells #[.int .i64 m, .int .i64 x] T1)).alloc (.cells #[.int .u64 0, .int .u64 0, .int .u64 0, .int .u64 0, .int .u64 0, .int .u64 0, .int .u64 0, .int .u64 0, .int .u64 0, .int .u64 0, .int .u64 0, .int .u64 0, .int .u64 0, .int .u64 0, .int .u64 0, .int .u64 0, .int .u64 0, .int .u64 0, .int .u64 0, .int .u64 0, .int .u64 0, .int .u64 0, .int .u64 0, .int .u64 0, .int .i64 0] T2)).alloc (.cells #[.int .u64 0, .int .u64 0, .int .u64 0, .int .u64 0, .int .u64 0, .int .u64 0, .int .u64 0, .int .u64 0, .int .u64 0, .int .u64 0, .int .u64 0, .int .u64 0, .int .u64 0, .int .u64 0, .int .u64 0, .int .u64 0, .int .u64 0, .int .u64 0, .int .u64 0, .int .u64 0, .int .u64 0, .int .u64 0, .int .u64 0, .int .u64 0, .int .i64 0] T3)).setRow (w.heap.size + 1 + 1) #[.int .u64 ((4 * man : Nat) : Int), .int .u64 0, .int .u64 0, .int .u64 0, .int .u64 0, .int .u64 0, .int .u64 2, .int .u64 0, .int .u64 0, .int .u64 0, .int .u64 0, .int .u64 0, .int .u64 2, .int .u64 0, .int .u64 0, .int .u64 0, .int .u64 0, .int .u64 0, .int .u64 4, .int .u64 0, .int .u64 0, .int .u64 0, .int .u64 0, .int .u64 0, .int .i64 0]) (dV ⟨4 * man, 2, 2, 4, 0⟩) x where
  d := dk_row (alloc_new _ _ (by simp)) (fun j hj => by
    have : j = 0 ∨ j = 1 ∨ j = 2 ∨ j = 3 ∨ j = 4 ∨ j = 5 ∨ j = 6 ∨ j = 7 ∨ j = 8 ∨ j = 9 ∨ j = 10 ∨ j = 11 ∨ j = 12 ∨ j = 13 ∨ j = 14 ∨ j = 15 ∨ j = 16 ∨ j = 17 ∨ j = 18 ∨ j = 19 ∨ j = 20 ∨ j = 21 ∨ j = 22 ∨ j = 23 ∨ j = 24 := by omega
    have e0 : L (4 * man) 0 = 4 * man := L_lit0 (by omega)
    have e1 : ∀ j, 1 ≤ j → L (4 * man) j = 0 := fun j hj => L_lit (by omega) hj
    rcases this with rfl | rfl | rfl | rfl | rfl | rfl | rfl | rfl | rfl | rfl | rfl | rfl | rfl | rfl | rfl | rfl | rfl | rfl | rfl | rfl | rfl | rfl | rfl | rfl | rfl <;> simp [dV, dF, e0, e1, L_lit0, L_lit])
  r := by
    have h0 : Dk ((w.alloc (.cells #[.int .i64 m, .int .i64 x] T1)).alloc (.cells #[.int .u64 0, .int .u64 0, .int .u64 0, .int .u64 0, .int .u64 0, .int .u64 0, .int .u64 0, .int .u64 0, .int .u64 0, .int .u64 0, .int .u64 0, .int .u64 0, .int .u64 0, .int .u64 0, .int .u64 0, .int .u64 0, .int .u64 0, .int .u64 0, .int .u64 0, .int .u64 0, .int .u64 0, .int .u64 0, .int .u64 0, .int .u64 0, .int .i64 0] T2)) (w.heap.size + 1) (dF 0 0 0 0 0) := by
      have := dk_new (w.alloc (.cells #[.int .i64 m, .int .i64 x] T1)) 0 0 0 0 0 T2
      rw [World.size_alloc] at this
      exact this
    exact (h0.later ((Ext.refl _).alloc _)).rowOther (by omega)
  x := by
    simp only [World.cell?, setRow_other _ _ _ _ (show w.heap.size ≠ w.heap.size + 1 + 1 by omega)]
    have h0 : (w.alloc (.cells #[.int .i64 m, .int .i64 x] T1)).cell? ⟨w.heap.size, 1, none⟩ = some (.int .i64 x) := by simp [go_sem]
    have h1 := ((((Ext.refl (w.alloc (.cells #[.int .i64 m, .int .i64 x] T1))).alloc (.cells #[.int .u64 0, .int .u64 0, .int .u64 0, .int .u64 0, .int .u64 0, .int .u64 0, .int .u64 0, .int .u64 0, .int .u64 0, .int .u64 0, .int .u64 0, .int .u64 0, .int .u64 0, .int .u64 0, .int .u64 0, .int .u64 0, .int .u64 0, .int .u64 0, .int .u64 0, .int .u64 0, .int .u64 0, .int .u64 0, .int .u64 0, .int .u64 0, .int .i64 0] T2)).alloc (.cells #[.int .u64 0, .int .u64 0, .int .u64 0, .int .u64 0, .int .u64 0, .int .u64 0, .int .u64 0, .int .u64 0, .int .u64 0, .int .u64 0, .int .u64 0, .int .u64 0, .int .u64 0, .int .u64 0, .int .u64 0, .int .u64 0, .int .u64 0, .int .u64 0, .int .u64 0, .int .u64 0, .int .u64 0, .int .u64 0, .int .u64 0, .int .u64 0, .int .i64 0] T3)).cell (b := w.heap.size) 1 (by simp)).trans h0
    simpa only [World.cell?] using h1
  e := ((((Ext.refl w).alloc _).alloc _).alloc _).row (by omega)
theorem DD.bel1 {w u : World} {d : Dec} {x : Int} (h : DD w u (dV d) x) : DD w ((((((u.setCell ⟨w.heap.size + 1 + 1, 6, none⟩ (.int .u64 1)).setCell ⟨w.heap.size + 1 + 1, 7, none⟩ (.int .u64 0)).setCell ⟨w.heap.size + 1 + 1, 8, none⟩ (.int .u64 0)).setCell ⟨w.heap.size + 1 + 1, 9, none⟩ (.int .u64 0)).setCell ⟨w.heap.size + 1 + 1, 10, none⟩ (.int .u64 0)).setCell ⟨w.heap.size + 1 + 1, 11, none⟩ (.int .u64 0)) (dV { d with below := 1 }) x := by
  have := h.bel 1
  unfold put6 at this
  rw [L_lit0 (by omega), L_lit (j := 1) (by omega) (by omega), L_lit (j := 2) (by omega) (by omega), L_lit (j := 3) (by omega) (by omega), L_lit (j := 4) (by omega) (by omega), L_lit (j := 5) (by omega) (by omega)] at this
  exact this
theorem decStart_small (man : Nat) (x : Int) (h : man < 16777216) : SmallD (decStart man x) := by
  have n6 : (67108864 : Nat) < N6 := by decide +kernel
  have lt : ∀ k : Nat, k ≤ 67108864 → k < N6 := fun k h => Nat.lt_of_le_of_lt h n6
  unfold decStart
  by_cases c : man = 8388608 ∧ -150 < x
  · simp only [if_pos c]
    split
    · exact ⟨shN_lt _ _, shN_lt _ _, shN_lt _ _, lt 4 (by omega)⟩
    · exact ⟨lt (4 * man) (by omega), lt 1 (by omega), lt 2 (by omega), shN_lt _ _⟩
  · simp only [if_neg c]
    split
    · exact ⟨shN_lt _ _, shN_lt _ _, shN_lt _ _, lt 4 (by omega)⟩
    · exact ⟨lt (4 * man) (by omega), lt 2 (by omega), lt 2 (by omega), shN_lt _ _⟩
theorem decStart_point (man : Nat) (x : Int) : (decStart man x).point = 0 := by
  unfold decStart
  simp only
  by_cases c : 0 ≤ x
  · simp only [if_pos c]
  · simp only [if_neg c]
theorem dF_list (n bl ab sz : Nat) (pt : Int) (j : Nat) (hj : j < 25) : ([.int .u64 (L n 0), .int .u64 (L n 1), .int .u64 (L n 2), .int .u64 (L n 3), .int .u64 (L n 4), .int .u64 (L n 5), .int .u64 (L bl 0), .int .u64 (L bl 1), .int .u64 (L bl 2), .int .u64 (L bl 3), .int .u64 (L bl 4), .int .u64 (L bl 5), .int .u64 (L ab 0), .int .u64 (L ab 1), .int .u64 (L ab 2), .int .u64 (L ab 3), .int .u64 (L ab 4), .int .u64 (L ab 5), .int .u64 (L sz 0), .int .u64 (L sz 1), .int .u64 (L sz 2), .int .u64 (L sz 3), .int .u64 (L sz 4), .int .u64 (L sz 5), .int .i64 pt] : List Value)[j]? = some (dF n bl ab sz pt j) := by
  have : j = 0 ∨ j = 1 ∨ j = 2 ∨ j = 3 ∨ j = 4 ∨ j = 5 ∨ j = 6 ∨ j = 7 ∨ j = 8 ∨ j = 9 ∨ j = 10 ∨ j = 11 ∨ j = 12 ∨ j = 13 ∨ j = 14 ∨ j = 15 ∨ j = 16 ∨ j = 17 ∨ j = 18 ∨ j = 19 ∨ j = 20 ∨ j = 21 ∨ j = 22 ∨ j = 23 ∨ j = 24 := by omega
  rcases this with rfl | rfl | rfl | rfl | rfl | rfl | rfl | rfl | rfl | rfl | rfl | rfl | rfl | rfl | rfl | rfl | rfl | rfl | rfl | rfl | rfl | rfl | rfl | rfl | rfl <;> rfl
theorem Dk.range {u : World} {b n bl ab sz : Nat} {pt : Int} (h : Dk u b (dF n bl ab sz pt)) : u.rangeAt b 0 [.int .u64 (L n 0), .int .u64 (L n 1), .int .u64 (L n 2), .int .u64 (L n 3), .int .u64 (L n 4), .int .u64 (L n 5), .int .u64 (L bl 0), .int .u64 (L bl 1), .int .u64 (L bl 2), .int .u64 (L bl 3), .int .u64 (L bl 4), .int .u64 (L bl 5), .int .u64 (L ab 0), .int .u64 (L ab 1), .int .u64 (L ab 2), .int .u64 (L ab 3), .int .u64 (L ab 4), .int .u64 (L ab 5), .int .u64 (L sz 0), .int .u64 (L sz 1), .int .u64 (L sz 2), .int .u64 (L sz 3), .int .u64 (L sz 4), .int .u64 (L sz 5), .int .i64 pt] := by
  intro j v hv
  have hj : j < 25 := (List.getElem?_eq_some_iff.1 hv).1
  rw [dF_list n bl ab sz pt j hj] at hv
  rw [Nat.zero_add, h.cell j hj]; exact hv
theorem dk_setCells {u : World} {b : Nat} {c : Nat → Value} (h : Dk u b c) (n bl ab sz : Nat) (pt : Int) : Dk (u.setCells b 0 [.int .u64 (L n 0), .int .u64 (L n 1), .int .u64 (L n 2), .int .u64 (L n 3), .int .u64 (L n 4), .int .u64 (L n 5), .int .u64 (L bl 0), .int .u64 (L bl 1), .int .u64 (L bl 2), .int .u64 (L bl 3), .int .u64 (L bl 4), .int .u64 (L bl 5), .int .u64 (L ab 0), .int .u64 (L ab 1), .int .u64 (L ab 2), .int .u64 (L ab 3), .int .u64 (L ab 4), .int .u64 (L ab 5), .int .u64 (L sz 0), .int .u64 (L sz 1), .int .u64 (L sz 2), .int .u64 (L sz 3), .int .u64 (L sz 4), .int .u64 (L sz 5), .int .i64 pt]) b (dF n bl ab sz pt) where
  cell := fun j hj => by
    have := World.rangeAt_setCells_same u b 0 [.int .u64 (L n 0), .int .u64 (L n 1), .int .u64 (L n 2), .int .u64 (L n 3), .int .u64 (L n 4), .int .u64 (L n 5), .int .u64 (L bl 0), .int .u64 (L bl 1), .int .u64 (L bl 2), .int .u64 (L bl 3), .int .u64 (L bl 4), .int .u64 (L bl 5), .int .u64 (L ab 0), .int .u64 (L ab 1), .int .u64 (L ab 2), .int .u64 (L ab 3), .int .u64 (L ab 4), .int .u64 (L ab 5), .int .u64 (L sz 0), .int .u64 (L sz 1), .int .u64 (L sz 2), .int .u64 (L sz 3), .int .u64 (L sz 4), .int .u64 (L sz 5), .int .i64 pt] (h.there (n := 25) (by decide)) j _ (dF_list n bl ab sz pt j hj)
    rwa [Nat.zero_add] at this
  froz := fun j => by simp only [World.setCells, World.frozen?_setCell]; exact h.froz j
theorem Ext.setCells {a : World} {b : Nat} (hb : a.heap.size ≤ b) : ∀ (vs : List Value) (o : Nat) (u : World), Ext a u → Ext a (u.setCells b o vs)
  | [], _, _, h => h
  | v :: r, o, _, h => Ext.setCells hb r (o + 1) _ (h.setCell hb v)
end Go.Proofs.YtoeahfddnjbhbaaGreatDoor

namespace Go.Proofs.YtoeahfddnjbhbaaGreatDoor
open Go.RowKit

/-- The blocks of shortest: the text's, the decimal's (at H), whether the mantissa is even (at H + 1). -/
structure Sh (w : World) (H : Nat) (W : World) (c : Nat → Value) (t : ByteArray) (ev : Bool) : Prop where
  d : Dk W H c
  t : W.cell? ⟨w.heap.size + 1, 0, none⟩ = some (.string t)
  tf : W.frozen? ⟨w.heap.size + 1, 0, none⟩ = false
  ev : W.cell? ⟨H + 1, 0, none⟩ = some (.bool ev)
  e : Ext w W
  h : w.heap.size + 2 ≤ H
theorem Sh.later {w : World} {H : Nat} {W W' : World} {c : Nat → Value} {t : ByteArray} {ev : Bool} (h : Sh w H W c t ev) (hx : Ext W W') : Sh w H W' c t ev :=
  ⟨h.d.later hx, (hx.cell 0 (World.block_lt_of_cell? W _ h.t)).trans h.t, (hx.froz 0 (World.block_lt_of_cell? W _ h.t)).trans h.tf, (hx.cell 0 (World.block_lt_of_cell? W _ h.ev)).trans h.ev, h.e.trans hx, h.h⟩
/-- A world that has turned one block besides. -/
theorem Sh.grown {w : World} {H : Nat} {W W' : World} {c : Nat → Value} {t : ByteArray} {ev : Bool} {r : Option Nat} (h : Sh w H W c t ev) (hg : W.grownBy W' r) (hr : ∀ x, r = some x → H + 2 ≤ x) : Sh w H W' c t ev := by
  have hh := h.h
  have k : ∀ b, b < W.heap.size → b ≤ H + 1 → W'.heap[b]? = W.heap[b]? := fun b hb hb2 => hg.block b hb (fun e => by have := hr b e.symm; omega)
  have l0 := h.d.lt
  have l1 : w.heap.size + 1 < W.heap.size := World.block_lt_of_cell? W _ h.t
  have l2 : H + 1 < W.heap.size := World.block_lt_of_cell? W _ h.ev
  have k1 := k (w.heap.size + 1) l1 (by omega)
  have k2 := k (H + 1) l2 (by omega)
  refine ⟨⟨fun j hj => (World.cell?_of_block (k H l0 (by omega))).trans (h.d.cell j hj), fun j => (World.frozen?_of_block (k H l0 (by omega))).trans (h.d.froz j)⟩,
    (World.cell?_of_block (a := ⟨w.heap.size + 1, 0, none⟩) k1).trans h.t, (World.frozen?_of_block (a := ⟨w.heap.size + 1, 0, none⟩) k1).trans h.tf, (World.cell?_of_block (a := ⟨H + 1, 0, none⟩) k2).trans h.ev, ?_, h.h⟩
  exact h.e.trans' ⟨hg.os, hg.tape, hg.output, hg.size, fun b hb => hg.block b (Nat.lt_of_lt_of_le hb h.e.size) (fun e => by have := hr b e.symm; omega)⟩
theorem Sh.dset {w : World} {H : Nat} {W : World} {c : Nat → Value} {t : ByteArray} {ev : Bool} (h : Sh w H W c t ev) {k : Nat} (hk : k < 25) (v : Value) : Sh w H (W.setCell ⟨H, k, none⟩ v) (fun j => if j = k then v else c j) t ev := by
  have hh := h.h
  refine ⟨h.d.set hk v, ?_, by rw [World.frozen?_setCell]; exact h.tf, ?_, h.e.setCell (by simp; omega) v, h.h⟩
  · rw [← h.t]; apply World.cell?_setCell_other; intro e; simp at e; try omega
  · rw [← h.ev]; apply World.cell?_setCell_other; intro e; simp at e; try omega
theorem Sh.dput {w : World} {H : Nat} {W : World} {c c' : Nat → Value} {t : ByteArray} {ev : Bool} {o : Nat} {Y : Nat → Nat} (h : Sh w H W c t ev) (hd : Dk (put6 W H o Y) H c') (ho : o + 6 ≤ 25) : Sh w H (put6 W H o Y) c' t ev := by
  have := (((((h.dset (k := o) (by omega) (.int .u64 (Y 0))).dset (k := o + 1) (by omega) (.int .u64 (Y 1))).dset (k := o + 2) (by omega) (.int .u64 (Y 2))).dset (k := o + 3) (by omega) (.int .u64 (Y 3))).dset (k := o + 4) (by omega) (.int .u64 (Y 4))).dset (k := o + 5) (by omega) (.int .u64 (Y 5))
  exact ⟨hd, this.t, this.tf, this.ev, this.e, h.h⟩
theorem Sh.text {w : World} {H : Nat} {W : World} {c : Nat → Value} {t : ByteArray} {ev : Bool} (h : Sh w H W c t ev) (s : ByteArray) : Sh w H (W.setCell ⟨w.heap.size + 1, 0, none⟩ (.string s)) c s ev := by
  have hh := h.h
  refine ⟨h.d.other (by omega), World.cell?_setCell_same' _ _ _ (by rw [h.t]; rfl), by rw [World.frozen?_setCell]; exact h.tf, ?_, h.e.setCell (by simp) _, h.h⟩
  rw [← h.ev]; apply World.cell?_setCell_other; intro e; simp at e; try omega
theorem Six.turned {a b : World} {r : Option Nat} {c : Nat} {X : Nat → Nat} (h : Six a c X) (hg : a.grownBy b r) (hn : ¬ r = some c) : Six b c X where
  cell := fun j hj => by rw [← h.cell j hj]; exact World.cell?_of_block (a := ⟨c, j, none⟩) (hg.block c h.lt (fun e => hn e.symm))
  froz := fun j => by rw [← h.froz j]; exact World.frozen?_of_block (a := ⟨c, j, none⟩) (hg.block c h.lt (fun e => hn e.symm))
theorem Six.of_set {w : World} {b c k : Nat} {X : Nat → Nat} {v : Value} (h : Six w b X) (hn : b ≠ c) : Six (w.setCell ⟨c, k, none⟩ v) b X := h.other hn
/-- Behind the loop: the text is written once more, the mark is taken. -/
theorem sh_end {w : World} {H : Nat} {W : World} {c : Nat → Value} {t T0 : ByteArray} {ev : Bool} {D : Nat} (h : Sh w H W c t ev) (hK : W.heap[D]? = some (.deferred (some []))) (hD : H + 2 ≤ D) :
    (W.setCell ⟨w.heap.size + 1, 0, none⟩ (.string T0)).drew.heap[D]? = some (.deferred (some [])) ∧
    ((W.setCell ⟨w.heap.size + 1, 0, none⟩ (.string T0)).drew.putObj D (.deferred none)).cell? ⟨w.heap.size + 1, 0, none⟩ = some (.string T0) ∧
    Ext w ((W.setCell ⟨w.heap.size + 1, 0, none⟩ (.string T0)).drew.putObj D (.deferred none)) := by
  have h2 := (h.text T0).later ((Ext.refl _).drew)
  have hK' : (W.setCell ⟨w.heap.size + 1, 0, none⟩ (.string T0)).drew.heap[D]? = some (.deferred (some [])) :=
    (KeepsOthers.setCell W ⟨w.heap.size + 1, 0, none⟩ (.string T0)).same D _ hK rfl
  have h3 := h2.grown (grownBy_putObj' _ D (.deferred none)) (fun x e => by cases e; exact hD)
  exact ⟨hK', h3.t, h3.e⟩
end Go.Proofs.YtoeahfddnjbhbaaGreatDoor

namespace Go.Proofs.YtoeahfddnjbhbaaGreatDoor
open Go.RowKit

/-- A digit (or 10) as text. -/
def itoaD (d : Nat) : List UInt8 := if d < 10 then [UInt8.ofNat (48 + d)] else [49, 48]
def txt : List Nat → List UInt8
  | [] => []
  | d :: r => itoaD d ++ txt r
def dnB (even : Bool) (r bl : Nat) : Bool := decide (r < bl) || (decide (r = bl) && even)
def hiB (even : Bool) (ra size : Nat) : Bool := decide (size < ra) || (decide (ra = size) && even)
def nrB (rr size digit : Nat) : Bool := decide (size < rr) || (decide (rr = size) && digit % 2 == 1)
/-- Whether the last digit is increased. -/
def incB (even : Bool) (size digit r bl ab : Nat) : Bool :=
  if dnB even r bl && hiB even ((r + ab) % M384) size then nrB ((r + r) % M384) size digit else hiB even ((r + ab) % M384) size
def stopB (even : Bool) (size digit r bl ab : Nat) : Bool := dnB even r bl || incB even size digit r bl ab
def digB (even : Bool) (size digit r bl ab : Nat) : Nat := if incB even size digit r bl ab then digit + 1 else digit
/-- The loop ends within so many rounds. -/
def shortDone (even : Bool) (size : Nat) : Nat → Nat → Nat → Nat → Bool
  | 0, _, _, _ => false
  | f + 1, num, below, above =>
    stopB even size (num * 10 % M384 / size) (num * 10 % M384 % size) (below * 10 % M384) (above * 10 % M384) || shortDone even size f (num * 10 % M384 % size) (below * 10 % M384) (above * 10 % M384)
theorem shortL_succ (even : Bool) (size f num below above : Nat) : shortL even size (f + 1) num below above =
    let digit := num * 10 % M384 / size
    let r := num * 10 % M384 % size
    let bl := below * 10 % M384
    let ab := above * 10 % M384
    if stopB even size digit r bl ab then [digB even size digit r bl ab] else digB even size digit r bl ab :: shortL even size f r bl ab := by
  unfold stopB digB incB dnB hiB nrB
  rw [shortL]
theorem digB_go {even : Bool} {size digit r bl ab : Nat} (h : stopB even size digit r bl ab = false) : digB even size digit r bl ab = digit := by
  unfold stopB at h
  rw [Bool.or_eq_false_iff] at h
  unfold digB; rw [h.2]; rfl
theorem short_go {even : Bool} {size k num below above : Nat} (h : shortDone even size k num below above = true) (hs : stopB even size (num * 10 % M384 / size) (num * 10 % M384 % size) (below * 10 % M384) (above * 10 % M384) = false) :
    ∃ j, k = j + 1 ∧ shortDone even size j (num * 10 % M384 % size) (below * 10 % M384) (above * 10 % M384) = true ∧
      txt (shortL even size k num below above) = itoaD (num * 10 % M384 / size) ++ txt (shortL even size j (num * 10 % M384 % size) (below * 10 % M384) (above * 10 % M384)) := by
  cases k with
  | zero => unfold shortDone at h; cases h
  | succ j =>
    unfold shortDone at h
    rw [hs, Bool.false_or] at h
    refine ⟨j, rfl, h, ?_⟩
    rw [shortL_succ]
    simp only [hs, Bool.false_eq_true, if_false]
    rw [digB_go hs]; rfl
theorem short_stop {even : Bool} {size k num below above : Nat} (h : shortDone even size k num below above = true) (hs : stopB even size (num * 10 % M384 / size) (num * 10 % M384 % size) (below * 10 % M384) (above * 10 % M384) = true) :
    txt (shortL even size k num below above) = itoaD (digB even size (num * 10 % M384 / size) (num * 10 % M384 % size) (below * 10 % M384) (above * 10 % M384)) := by
  cases k with
  | zero => unfold shortDone at h; cases h
  | succ j =>
    rw [shortL_succ]
    simp only [hs, if_true]
    unfold txt txt; simp
theorem round_stop {even : Bool} {size k num below above q r bl2 ab2 : Nat} {t X : List UInt8} (hr : num * 10 % M384 % size = r) (hq : num * 10 % M384 / size = q) (hb : below * 10 % M384 = bl2) (ha : above * 10 % M384 = ab2)
    (h : shortDone even size k num below above = true) (hs : stopB even size q r bl2 ab2 = true) (ht : t ++ txt (shortL even size k num below above) = X) : t ++ itoaD (digB even size q r bl2 ab2) = X := by
  subst hr hq hb ha
  rw [← ht, short_stop h hs]
theorem round_go {even : Bool} {size k num below above q r bl2 ab2 : Nat} {t X : List UInt8} (hr : num * 10 % M384 % size = r) (hq : num * 10 % M384 / size = q) (hb : below * 10 % M384 = bl2) (ha : above * 10 % M384 = ab2)
    (h : shortDone even size k num below above = true) (hs : stopB even size q r bl2 ab2 = false) (ht : t ++ txt (shortL even size k num below above) = X) (hl : t.length + k ≤ 60) (hq9 : q ≤ 9) :
    ∃ j, k = j + 1 ∧ shortDone even size j r bl2 ab2 = true ∧ (t ++ itoaD (digB even size q r bl2 ab2)) ++ txt (shortL even size j r bl2 ab2) = X ∧ (t ++ itoaD (digB even size q r bl2 ab2)).length + j ≤ 60 := by
  subst hr hq hb ha
  obtain ⟨j, rfl, h1, h2⟩ := short_go h hs
  refine ⟨j, rfl, h1, by rw [digB_go hs, ← ht, h2, List.append_assoc], ?_⟩
  rw [digB_go hs]
  unfold itoaD
  rw [if_pos (by omega)]
  simp; omega
theorem digB_le {even : Bool} {size q r bl ab : Nat} (h : q ≤ 9) : digB even size q r bl ab ≤ 10 := by unfold digB; split <;> omega
theorem itoaD_len (d : Nat) : (itoaD d).length ≤ 2 := by unfold itoaD; split <;> simp
/-- The text, and the place of the point. -/
def shT (D : Dec) (even : Bool) : List UInt8 × Int :=
  let t := txt (shortL even D.size 60 D.num D.below D.above)
  if t = [49, 48] then ([49], D.point + 1) else (t, D.point)
theorem cmpN_lt {a b : Nat} : cmpN a b < 0 ↔ a < b := by unfold cmpN; split <;> (try split) <;> omega
theorem cmpN_eq {a b : Nat} : cmpN a b = 0 ↔ a = b := by unfold cmpN; split <;> (try split) <;> omega
theorem cmpN_gt {a b : Nat} : cmpN a b > 0 ↔ b < a := by unfold cmpN; split <;> (try split) <;> omega

theorem keeps_ext {a b : World} (h : Ext a b) : KeepsOthers a b := ⟨h.size, fun k o hk _ => (h.bel.block k (Array.getElem?_eq_some_iff.1 hk).1).trans hk⟩
/-- A round's blocks: what is left (at R), the iterator's number and size (at N, S). -/
structure Rd (w : World) (H R N S : Nat) (v u : World) (c : Nat → Value) (t : ByteArray) (ev : Bool) (r sz : Nat) : Prop where
  sh : Sh w H u c t ev
  fr : Six u R (L r)
  fn : Six u N (L r)
  fs : Six u S (L sz)
  k : KeepsOthers v u
  hr : H + 2 ≤ R
  hn : H + 2 ≤ N
  hs : H + 2 ≤ S
theorem Rd.later {w : World} {H R N S : Nat} {v u u' : World} {c : Nat → Value} {t : ByteArray} {ev : Bool} {r sz : Nat} (h : Rd w H R N S v u c t ev r sz) (hx : Ext u u') : Rd w H R N S v u' c t ev r sz :=
  ⟨h.sh.later hx, h.fr.later hx, h.fn.later hx, h.fs.later hx, h.k.trans (keeps_ext hx), h.hr, h.hn, h.hs⟩
theorem Rd.drew {w : World} {H R N S : Nat} {v u : World} {c : Nat → Value} {t : ByteArray} {ev : Bool} {r sz : Nat} (h : Rd w H R N S v u c t ev r sz) : Rd w H R N S v u.drew c t ev r sz := h.later ((Ext.refl u).drew)
theorem keeps_put6 {v u : World} {b o : Nat} {Y : Nat → Nat} (h : KeepsOthers v u) : KeepsOthers v (put6 u b o Y) :=
  h.trans ((((((KeepsOthers.setCell _ _ _).trans (KeepsOthers.setCell _ _ _)).trans (KeepsOthers.setCell _ _ _)).trans (KeepsOthers.setCell _ _ _)).trans (KeepsOthers.setCell _ _ _)).trans (KeepsOthers.setCell _ _ _))
theorem Rd.dput {w : World} {H R N S : Nat} {v u : World} {c c' : Nat → Value} {t : ByteArray} {ev : Bool} {r sz o : Nat} {Y : Nat → Nat} (h : Rd w H R N S v u c t ev r sz) (hd : Dk (put6 u H o Y) H c') (ho : o + 6 ≤ 25) : Rd w H R N S v (put6 u H o Y) c' t ev r sz := by
  have a := h.hr; have b := h.hn; have c := h.hs
  exact ⟨h.sh.dput hd ho, h.fr.put6_other (by omega), h.fn.put6_other (by omega), h.fs.put6_other (by omega), keeps_put6 h.k, a, b, c⟩
theorem Rd.bel {w : World} {H R N S : Nat} {v u : World} {n bl ab z : Nat} {pt : Int} {t : ByteArray} {ev : Bool} {r sz : Nat} (h : Rd w H R N S v u (dF n bl ab z pt) t ev r sz) (y : Nat) : Rd w H R N S v (put6 u H 6 (L y)) (dF n y ab z pt) t ev r sz := h.dput (h.sh.d.putB y) (by omega)
theorem Rd.abv {w : World} {H R N S : Nat} {v u : World} {n bl ab z : Nat} {pt : Int} {t : ByteArray} {ev : Bool} {r sz : Nat} (h : Rd w H R N S v u (dF n bl ab z pt) t ev r sz) (y : Nat) : Rd w H R N S v (put6 u H 12 (L y)) (dF n bl y z pt) t ev r sz := h.dput (h.sh.d.putA y) (by omega)
theorem Rd.text {w : World} {H R N S : Nat} {v u : World} {c : Nat → Value} {t : ByteArray} {ev : Bool} {r sz : Nat} (h : Rd w H R N S v u c t ev r sz) (s : ByteArray) : Rd w H R N S v (u.setCell ⟨w.heap.size + 1, 0, none⟩ (.string s)) c s ev r sz := by
  have a := h.hr; have b := h.hn; have c := h.hs; have d := h.sh.h
  exact ⟨h.sh.text s, h.fr.other (by omega), h.fn.other (by omega), h.fs.other (by omega), h.k.trans (KeepsOthers.setCell _ _ _), a, b, c⟩
end Go.Proofs.YtoeahfddnjbhbaaGreatDoor
