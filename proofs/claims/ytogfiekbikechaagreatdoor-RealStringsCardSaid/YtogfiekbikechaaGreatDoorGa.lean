/- Layer 2: naturals in places of 64 bits: plain facts (no program here). -/
/- Layer 2: what the functions of package real give, as plain functions (no program here). -/
/- 'Ext w w'': what there was in w is in w' as it was; new blocks and draws may have come. -/
/- Layer 2: the places of a natural, as the program's loops meet them (no program here). -/
/- Layer 2: six cells of a block (no program here). -/
import Derived.WalkKit
import Derived.Lib.BitFns
import Derived.Lib.SlTrimSet
import Derived.Lib.ItoaNum
import Derived.ProofKit
import Derived.WalkSmall
import Derived.Laws.Tables
import Derived.Laws.CopyRow
import Derived.Lib.SlBuf
namespace Go.Proofs.YtogfiekbikechaaGreatDoor

/-! ### Places to a base -/
def limb (b n k : Nat) : Nat := n / b ^ k % b
def carA (b n m k : Nat) : Nat := (n % b ^ k + m % b ^ k) / b ^ k
def carM (b n f k : Nat) : Nat := (n % b ^ k * f) / b ^ k

theorem split_at (b n k : Nat) : n = b ^ k * (n / b ^ k) + n % b ^ k := (Nat.div_add_mod n (b ^ k)).symm
theorem add_div_at {b : Nat} (hb : 0 < b) (n m k : Nat) : (n + m) / b ^ k = n / b ^ k + m / b ^ k + carA b n m k := by
  have hp : 0 < b ^ k := Nat.pow_pos hb
  have e : n + m = (n % b ^ k + m % b ^ k) + b ^ k * (n / b ^ k + m / b ^ k) := by
    have h1 := split_at b n k
    have h2 := split_at b m k
    rw [Nat.mul_add]; omega
  rw [e, Nat.add_mul_div_left _ _ hp]
  unfold carA
  have h1 : ((n % b ^ k + m % b ^ k) + b ^ k * (n / b ^ k + m / b ^ k)) = n + m := e.symm
  omega
theorem add_limb {b : Nat} (hb : 0 < b) (n m k : Nat) : limb b (n + m) k = (limb b n k + limb b m k + carA b n m k) % b := by
  unfold limb
  rw [add_div_at hb]
  simp [Nat.add_mod]
theorem mod_succ_at (b n k : Nat) : n % b ^ (k + 1) = n % b ^ k + b ^ k * limb b n k := Nat.mod_pow_succ
theorem add_carry {b : Nat} (hb : 0 < b) (n m k : Nat) : carA b n m (k + 1) = (limb b n k + limb b m k + carA b n m k) / b := by
  have hp : 0 < b ^ k := Nat.pow_pos hb
  unfold carA
  rw [mod_succ_at, mod_succ_at, Nat.pow_succ, ← Nat.div_div_eq_div_mul]
  have e : n % b ^ k + b ^ k * limb b n k + (m % b ^ k + b ^ k * limb b m k) = (n % b ^ k + m % b ^ k) + b ^ k * (limb b n k + limb b m k) := by
    rw [Nat.mul_add]; omega
  rw [e, Nat.add_mul_div_left _ _ hp, Nat.add_comm]
theorem carA_zero (b n m : Nat) : carA b n m 0 = 0 := by simp [carA, Nat.mod_one]
theorem carA_le {b : Nat} (hb : 0 < b) (n m k : Nat) : carA b n m k ≤ 1 := by
  have hp : 0 < b ^ k := Nat.pow_pos hb
  have h1 := Nat.mod_lt n hp
  have h2 := Nat.mod_lt m hp
  unfold carA
  have : (n % b ^ k + m % b ^ k) / b ^ k < 2 := Nat.div_lt_of_lt_mul (by omega)
  omega
theorem mul_limb {b : Nat} (hb : 0 < b) (n f k : Nat) : limb b (n * f) k = (limb b n k * f + carM b n f k) % b := by
  have hp : 0 < b ^ k := Nat.pow_pos hb
  have e : n * f = n % b ^ k * f + b ^ k * (n / b ^ k * f) := by
    have h1 := split_at b n k
    calc n * f = (b ^ k * (n / b ^ k) + n % b ^ k) * f := by rw [← h1]
      _ = _ := by rw [Nat.add_mul, Nat.mul_assoc, Nat.add_comm]
  unfold limb
  rw [e, Nat.add_mul_div_left _ _ hp]
  unfold carM
  rw [Nat.add_comm, Nat.add_mod, Nat.add_mod (n / b ^ k % b * f), Nat.mod_mul_mod]
theorem mul_carry {b : Nat} (hb : 0 < b) (n f k : Nat) : carM b n f (k + 1) = (limb b n k * f + carM b n f k) / b := by
  have hp : 0 < b ^ k := Nat.pow_pos hb
  unfold carM
  rw [mod_succ_at, Nat.pow_succ, ← Nat.div_div_eq_div_mul]
  have e : (n % b ^ k + b ^ k * limb b n k) * f = n % b ^ k * f + b ^ k * (limb b n k * f) := by
    rw [Nat.add_mul, Nat.mul_assoc]
  rw [e, Nat.add_mul_div_left _ _ hp, Nat.add_comm]
theorem carM_zero (b n f : Nat) : carM b n f 0 = 0 := by simp [carM, Nat.mod_one]
theorem carM_lt {b : Nat} (hb : 0 < b) (n f k : Nat) (hf : 0 < f) : carM b n f k < f := by
  have hp : 0 < b ^ k := Nat.pow_pos hb
  have h1 := Nat.mod_lt n hp
  unfold carM
  refine Nat.div_lt_of_lt_mul ?_
  exact Nat.mul_lt_mul_of_pos_right h1 hf
theorem limb_lt {b : Nat} (hb : 0 < b) (n k : Nat) : limb b n k < b := Nat.mod_lt _ hb
/-- What lies beyond a place does not matter. -/
theorem limb_mod {b : Nat} (_hb : 0 < b) (n : Nat) {k K : Nat} (h : k < K) : limb b (n % b ^ K) k = limb b n k := by
  unfold limb
  have e : b ^ K = b ^ k * b ^ (K - k) := by rw [← Nat.pow_add]; congr 1; omega
  rw [e, Nat.mod_mul_right_div_self]
  refine Nat.mod_mod_of_dvd _ ?_
  exact ⟨b ^ (K - k - 1), by rw [← Nat.pow_succ']; congr 1; omega⟩
theorem limb_zero (b k : Nat) : limb b 0 k = 0 := by simp [limb]
theorem limb_small {b n : Nat} (h : n < b) : limb b n 0 = n := by simp [limb, Nat.mod_eq_of_lt h]
theorem limb_small' {b n k : Nat} (h : n < b) (hk : 1 ≤ k) : limb b n k = 0 := by
  unfold limb
  have : n < b ^ k := Nat.lt_of_lt_of_le h (by
    have : b ^ 1 ≤ b ^ k := Nat.pow_le_pow_right (by omega) hk
    simpa using this)
  rw [Nat.div_eq_of_lt this]; rfl
/-- A place is shifted. -/
theorem limb_shift {b : Nat} (hb : 0 < b) (n k : Nat) : limb b (n * b) (k + 1) = limb b n k := by
  unfold limb
  rw [Nat.pow_succ, Nat.mul_comm (b ^ k) b, ← Nat.div_div_eq_div_mul, Nat.mul_div_cancel _ hb]
theorem limb_shift0 {b : Nat} (n : Nat) : limb b (n * b) 0 = 0 := by simp [limb]
/-- Two numbers with the same places are equal. -/
theorem limbs_inj {b : Nat} (hb : 0 < b) : ∀ (K n m : Nat), (∀ k, k < K → limb b n k = limb b m k) → n % b ^ K = m % b ^ K
  | 0, n, m, _ => by simp [Nat.mod_one]
  | K + 1, n, m, h => by
    rw [mod_succ_at, mod_succ_at, limbs_inj hb K n m (fun k hk => h k (by omega)), h K (by omega)]
/-- The first place from above in which they differ decides. -/
theorem limb_lt_at {b : Nat} (hb : 0 < b) {n m K k : Nat} (hn : n < b ^ K) (hm : m < b ^ K) (hk : k < K) (he : ∀ j, k < j → j < K → limb b n j = limb b m j) (h : limb b n k < limb b m k) : n < m := by
  have hn' : n / b ^ (k + 1) = m / b ^ (k + 1) := by
    have : ∀ (x : Nat), x < b ^ K → x / b ^ (k + 1) < b ^ (K - (k + 1)) := fun x hx => Nat.div_lt_of_lt_mul (by rw [← Nat.pow_add, show k + 1 + (K - (k + 1)) = K by omega]; exact hx)
    have a := Nat.mod_eq_of_lt (this n hn)
    have c := Nat.mod_eq_of_lt (this m hm)
    rw [← a, ← c]
    refine limbs_inj hb _ _ _ fun j hj => ?_
    have := he (k + 1 + j) (by omega) (by omega)
    unfold limb at this ⊢
    rw [Nat.pow_add, ← Nat.div_div_eq_div_mul, ← Nat.div_div_eq_div_mul] at this
    exact this
  have hp : 0 < b ^ k := Nat.pow_pos hb
  have h1 := split_at b n (k + 1)
  have h2 := split_at b m (k + 1)
  rw [mod_succ_at] at h1 h2
  have g1 := Nat.mod_lt n hp
  have : b ^ k * limb b n k + b ^ k ≤ b ^ k * limb b m k := by
    rw [← Nat.mul_succ]; exact Nat.mul_le_mul_left _ h
  rw [hn'] at h1
  generalize m % b ^ k = y at *
  generalize n % b ^ k = x at *
  omega
end Go.Proofs.YtogfiekbikechaaGreatDoor

namespace Go.Proofs.YtogfiekbikechaaGreatDoor

/-- The bits of a number. -/
def nb (n : Nat) : Nat := if n = 0 then 0 else Nat.log2 n + 1
def M384 : Nat := 2 ^ 384

/-! ### Rounding -/
/-- Mantissa and exponent of the real next to man * 2^exp (more: something above it). -/
def shortV (man : Nat) (exp : Int) (more : Bool) : Nat × Int :=
  let drop : Int := max ((nb man : Int) - 24) (-150 - exp)
  if drop ≤ 0 then (man * 2 ^ (-drop).toNat, exp + drop)
  else if 64 < drop then (0, 0)
  else
    let d := drop.toNat
    let kept := man / 2 ^ d
    let half := 2 ^ (d - 1)
    let dropped := man % 2 ^ d
    let kept2 := if decide (half < dropped) || (decide (dropped = half) && (more || kept % 2 == 1)) then kept + 1 else kept
    if kept2 = 16777216 then (8388608, exp + drop + 1) else (kept2, exp + drop)

/-- The rounded value of a number, if there is one. -/
def roundV (neg : Bool) (man : Nat) (exp : Int) (more : Bool) : Option (Int × Int) :=
  let s := shortV man exp more
  if s.1 = 0 then some (0, 0)
  else if 150 < s.2 then none
  else some (if neg then -(s.1 : Int) else s.1, s.2)

/-- What a guarded operation returns. -/
def okV (r : Option (Int × Int)) : Int × Int := r.getD (0, 0)
def okE (r : Option (Int × Int)) : Int := if r.isSome then 0 else 3

/-! ### Quotients of naturals -/
def rstep (b : Nat) (s : Nat × Nat) : Nat × Nat :=
  if b ≤ s.2 then (s.1 * 2 + 1, (s.2 - b + (s.2 - b)) % M384) else (s.1 * 2, (s.2 + s.2) % M384)
def rsteps (b : Nat) : Nat → Nat × Nat → Nat × Nat
  | 0, s => s
  | k + 1, s => rstep b (rsteps b k s)
def shN (n : Nat) (k : Nat) : Nat := n * 2 ^ k % M384
def ratioE (a b : Nat) : Int := (nb a : Int) - nb b
def ratioS (a b : Nat) : Nat × Nat :=
  let e := ratioE a b
  if 0 < e then rsteps (shN b e.toNat) 32 (0, a) else rsteps b 32 (0, shN a (-e).toNat)

/-! ### Numeric strings -/
def isDg (c : UInt8) : Bool := decide (48 ≤ c.toNat) && decide (c.toNat ≤ 57)
def digs (l : List UInt8) : List UInt8 := l.takeWhile isDg
def rest (l : List UInt8) : List UInt8 := l.dropWhile isDg
def cut1 (c : UInt8) : List UInt8 → List UInt8 × Bool
  | [] => ([], false)
  | a :: r => if a = c then (r, true) else (a :: r, false)
structure Num where
  neg : Bool
  digits : List UInt8
  scale : Int
def expS (n : Int) (c : UInt8) : Int := min (10 * n + ((c.toNat : Int) - 48)) 10000
def expF (l : List UInt8) : Int := l.foldl expS 0
/-- The exponent of a numeric string. -/
def expV (s : List UInt8) : Option Int :=
  let (d0, neg) := cut1 45 s
  let d := if neg then d0 else (cut1 43 s).1
  if digs d = [] ∨ rest d ≠ [] then none
  else some (if neg then -(expF d) else expF d)
def numOf (neg : Bool) (digits : List UInt8) (scale : Int) : Num := ⟨neg, digits.dropWhile (· == 48), scale⟩
def tailV (neg : Bool) (digits : List UInt8) (scale : Int) (s : List UInt8) : Option Num :=
  let (after, found) := cut1 101 s
  if found then (expV after).map fun e => numOf neg digits (scale + e)
  else if s = [] then some (numOf neg digits scale) else none
/-- The parts of a numeric string. -/
def readV (s : List UInt8) : Option Num :=
  if 60 < s.length then none
  else
    let (s1, neg) := cut1 45 s
    let d := digs s1
    let s2 := rest s1
    if d = [] then none
    else
      let (after, found) := cut1 46 s2
      if found then
        if digs after = [] then none
        else tailV neg (d ++ digs after) (-((digs after).length : Int)) (rest after)
      else tailV neg d 0 s2
def decN (n : Nat) (c : UInt8) : Nat := (n * 10 % M384 + (c.toNat - 48)) % M384
def decF (l : List UInt8) : Nat := l.foldl decN 0
/-- The rounded value of a numeric string's parts. -/
def numV (n : Num) : Option (Int × Int) :=
  let point : Int := n.digits.length + n.scale
  if n.digits = [] ∨ point ≤ -46 then some (0, 0)
  else if 53 < point then none
  else
    let a := if 0 ≤ n.scale then decF n.digits * 10 ^ n.scale.toNat % M384 else decF n.digits
    let b := if 0 ≤ n.scale then 1 else 10 ^ (-n.scale).toNat % M384
    let q := ratioS a b
    roundV n.neg q.1 (ratioE a b - 31) (decide (q.2 ≠ 0))
def parseO (s : List UInt8) : Option (Option (Int × Int)) := (readV s).map numV
def rparseV (s : List UInt8) : Int × Int := match readV s with | none => (0, 0) | some n => okV (numV n)
def rparseE (s : List UInt8) : Int := match readV s with | none => 7 | some n => okE (numV n)

example : rparseV "0.1".toUTF8.data.toList = (13421773, -27) ∧ rparseE "0.1".toUTF8.data.toList = 0 := by decide +kernel
example : rparseE "1e60".toUTF8.data.toList = 3 := by decide +kernel
end Go.Proofs.YtogfiekbikechaaGreatDoor

namespace Go.Proofs.YtogfiekbikechaaGreatDoor
open Go.RowKit

structure Ext (w w' : World) : Prop where
  bel : Below w.heap.size w w'

theorem Ext.refl (w : World) : Ext w w := ⟨Below.refl _ _⟩
theorem Ext.trans {a b c : World} (h : Ext a b) (k : Ext b c) : Ext a c := ⟨h.bel.trans (k.bel.mono h.bel.size)⟩
theorem Ext.drewN {a w : World} (h : Ext a w) (n : Nat) : Ext a (w.drewN n) := ⟨below_drewN h.bel n⟩
theorem Ext.drew {a w : World} (h : Ext a w) : Ext a w.drew := ⟨h.bel.drew⟩
theorem Ext.alloc {a w : World} (h : Ext a w) (o : Obj) : Ext a (w.alloc o) := ⟨h.bel.alloc h.bel.size _⟩
theorem Ext.setCell {a w : World} (h : Ext a w) {p : Addr} (hp : a.heap.size ≤ p.block) (v : Value) : Ext a (w.setCell p v) := ⟨h.bel.setCell hp v⟩
theorem Ext.cell {a w : World} (h : Ext a w) {b : Nat} (o : Nat) (hb : b < a.heap.size) : w.cell? ⟨b, o, none⟩ = a.cell? ⟨b, o, none⟩ := h.bel.cell (p := ⟨b, o, none⟩) hb
theorem Ext.froz {a w : World} (h : Ext a w) {b : Nat} (o : Nat) (hb : b < a.heap.size) : w.frozen? ⟨b, o, none⟩ = a.frozen? ⟨b, o, none⟩ := h.bel.frozen (p := ⟨b, o, none⟩) hb
theorem Ext.size {a w : World} (h : Ext a w) : a.heap.size ≤ w.heap.size := h.bel.size
theorem Ext.of_eq {a w : World} (h : a = w) : Ext a w := h ▸ Ext.refl a
theorem Ext.cells {a w : World} (h : Ext a w) : (∀ b o, b < a.heap.size → w.cell? ⟨b, o, none⟩ = a.cell? ⟨b, o, none⟩) ∧ (∀ b o, b < a.heap.size → w.frozen? ⟨b, o, none⟩ = a.frozen? ⟨b, o, none⟩) :=
  ⟨fun _ o hb => h.cell o hb, fun _ o hb => h.froz o hb⟩
end Go.Proofs.YtogfiekbikechaaGreatDoor

namespace Go.Proofs.YtogfiekbikechaaGreatDoor

def B64 : Nat := 18446744073709551616
theorem B64_pos : 0 < B64 := by decide
theorem B64_eq : B64 = 18446744073709551616 := rfl
/-- Place j of n. -/
def L (n j : Nat) : Nat := limb B64 n j
theorem L_lt (n j : Nat) : L n j < 18446744073709551616 := limb_lt B64_pos n j
def mhi (x y : Nat) : Nat := x * y / B64
def mlo (x y : Nat) : Nat := x * y % B64
def asum (x y c : Nat) : Nat := (x + y + c) % B64
def acar (x y c : Nat) : Nat := (x + y + c) / B64
def sdif (x y c : Nat) : Nat := (x + B64 - y - c) % B64
def sbor (x y c : Nat) : Nat := if x < y + c then 1 else 0
/-- What is carried into place k: of a product, of a sum. -/
def CM (n f k : Nat) : Nat := carM B64 n f k
def CA (n m k : Nat) : Nat := carA B64 n m k
theorem CM_lt (n f k : Nat) (hf : f < 18446744073709551616) : CM n f k < 18446744073709551616 := by
  unfold CM
  rcases Nat.eq_zero_or_pos f with h | h
  · subst h; unfold carM; simp
  · exact Nat.lt_trans (carM_lt B64_pos n f k h) hf
theorem CM_zero (n f : Nat) : CM n f 0 = 0 := carM_zero _ _ _
theorem CA_zero (n m : Nat) : CA n m 0 = 0 := carA_zero _ _ _
theorem CA_le (n m k : Nat) : CA n m k ≤ 1 := carA_le B64_pos _ _ _
theorem mlo_lt (x y : Nat) : mlo x y < 18446744073709551616 := Nat.mod_lt _ B64_pos
theorem mul_place (n f k : Nat) : asum (mlo (L n k) f) (CM n f k) 0 = L (n * f) k := by
  unfold asum mlo L CM
  rw [mul_limb B64_pos, Nat.add_zero, Nat.add_mod, Nat.mod_mod, ← Nat.add_mod]
theorem mul_next (n f k : Nat) : mhi (L n k) f + acar (mlo (L n k) f) (CM n f k) 0 = CM n f (k + 1) := by
  unfold mhi acar mlo L CM
  rw [mul_carry B64_pos, Nat.add_zero]
  generalize limb B64 n k * f = x
  generalize carM B64 n f k = c
  have h := Nat.div_add_mod x B64
  conv => rhs; rw [← h, Nat.add_assoc, Nat.mul_add_div B64_pos]
theorem add_place (n m k : Nat) : asum (L n k) (L m k) (CA n m k) = L (n + m) k := by
  unfold asum L CA; rw [add_limb B64_pos]
theorem add_next (n m k : Nat) : acar (L n k) (L m k) (CA n m k) = CA n m (k + 1) := by
  unfold acar L CA; rw [add_carry B64_pos]
/-- A difference: d + m = n. -/
theorem sub_place (d m k : Nat) : sdif (L (d + m) k) (L m k) (CA d m k) = L d k := by
  have h := add_place d m k
  have h1 := L_lt d k
  have h2 := L_lt m k
  have h3 := CA_le d m k
  unfold sdif
  rw [← h]
  unfold asum
  rw [B64_eq]
  generalize L d k = x at *
  generalize L m k = y at *
  generalize CA d m k = c at *
  omega
theorem sub_next (d m k : Nat) : sbor (L (d + m) k) (L m k) (CA d m k) = CA d m (k + 1) := by
  have h := add_place d m k
  have h0 := add_next d m k
  have h1 := L_lt d k
  have h2 := L_lt m k
  have h3 := CA_le d m k
  unfold sbor
  rw [← h, ← h0]
  unfold asum acar
  rw [B64_eq]
  generalize L d k = x at *
  generalize L m k = y at *
  generalize CA d m k = c at *
  split <;> omega

/-- The places below k are those of a, the others those of b. -/
def mix (a b k j : Nat) : Nat := if j < k then L a j else L b j
theorem mix_zero (a b j : Nat) : mix a b 0 j = L b j := by unfold mix; simp
theorem mix_at (a b k : Nat) : mix a b k k = L b k := by unfold mix; simp
theorem mix_all {a b k j : Nat} (h : j < k) : mix a b k j = L a j := by unfold mix; simp [h]
theorem mix_step (a b k j : Nat) (h : j ≠ k) : mix a b (k + 1) j = mix a b k j := by
  unfold mix; by_cases h1 : j < k
  · rw [if_pos h1, if_pos (by omega)]
  · rw [if_neg h1, if_neg (by omega)]
theorem mix_new (a b k : Nat) : mix a b (k + 1) k = L a k := by unfold mix; simp
end Go.Proofs.YtogfiekbikechaaGreatDoor

namespace Go.Proofs.YtogfiekbikechaaGreatDoor
open Go.RowKit

/-- Block b holds six places, which may be written. -/
structure Six (wr : World) (b : Nat) (X : Nat → Nat) : Prop where
  cell : ∀ j, j < 6 → wr.cell? ⟨b, j, none⟩ = some (.int .u64 (X j))
  froz : ∀ j, wr.frozen? ⟨b, j, none⟩ = false

theorem Six.lt {wr : World} {b : Nat} {X : Nat → Nat} (h : Six wr b X) : b < wr.heap.size := World.block_lt_of_cell? wr _ (h.cell 0 (by omega))
theorem Six.later {w wr : World} {b : Nat} {X : Nat → Nat} (h : Six w b X) (hx : Ext w wr) : Six wr b X :=
  ⟨fun j hj => (hx.cell j h.lt).trans (h.cell j hj), fun j => (hx.froz j h.lt).trans (h.froz j)⟩
theorem Six.drew {w : World} {b : Nat} {X : Nat → Nat} (h : Six w b X) : Six w.drew b X := h.later ((Ext.refl w).drew)
theorem Six.drewN {w : World} {b : Nat} {X : Nat → Nat} (h : Six w b X) (n : Nat) : Six (w.drewN n) b X := h.later ((Ext.refl w).drewN n)
/-- A place is written. -/
theorem Six.set {w : World} {b k : Nat} {X Y : Nat → Nat} (h : Six w b X) {v : Nat} (hk : k < 6) (hv : Y k = v) (ho : ∀ j, j ≠ k → Y j = X j) : Six (w.setCell ⟨b, k, none⟩ (.int .u64 v)) b Y where
  cell := fun j hj => by
    by_cases e : j = k
    · subst e; rw [hv]; exact World.cell?_setCell_same' _ _ _ (by rw [h.cell j hj]; rfl)
    · rw [ho j e, ← h.cell j hj]
      apply World.cell?_setCell_other; intro e2; simp at e2; try exact e e2.symm
  froz := fun j => by rw [World.frozen?_setCell]; exact h.froz j
theorem Six.other {w : World} {b c k : Nat} {X : Nat → Nat} (h : Six w b X) {v : Value} (hn : b ≠ c) : Six (w.setCell ⟨c, k, none⟩ v) b X where
  cell := fun j hj => by
    rw [← h.cell j hj]
    apply World.cell?_setCell_other; intro e2; simp at e2; try exact hn e2.1.symm
  froz := fun j => by rw [World.frozen?_setCell]; exact h.froz j
theorem six_new (w : World) (X : Nat → Nat) (T : TypeId) : Six (w.alloc (.cells #[.int .u64 (X 0), .int .u64 (X 1), .int .u64 (X 2), .int .u64 (X 3), .int .u64 (X 4), .int .u64 (X 5)] T)) w.heap.size X where
  cell := fun j hj => by
    have : j = 0 ∨ j = 1 ∨ j = 2 ∨ j = 3 ∨ j = 4 ∨ j = 5 := by omega
    rcases this with rfl | rfl | rfl | rfl | rfl | rfl <;> simp [go_sem]
  froz := fun j => by simp [go_sem]
theorem Six.cells {wr : World} {b : Nat} {X : Nat → Nat} (h : Six wr b X) : wr.cell? ⟨b, 0, none⟩ = some (.int .u64 (X 0)) ∧ wr.cell? ⟨b, 1, none⟩ = some (.int .u64 (X 1)) ∧ wr.cell? ⟨b, 2, none⟩ = some (.int .u64 (X 2)) ∧
    wr.cell? ⟨b, 3, none⟩ = some (.int .u64 (X 3)) ∧ wr.cell? ⟨b, 4, none⟩ = some (.int .u64 (X 4)) ∧ wr.cell? ⟨b, 5, none⟩ = some (.int .u64 (X 5)) :=
  ⟨h.cell 0 (by omega), h.cell 1 (by omega), h.cell 2 (by omega), h.cell 3 (by omega), h.cell 4 (by omega), h.cell 5 (by omega)⟩
theorem Six.of_eq {wr : World} {b : Nat} {X Y : Nat → Nat} (h : Six wr b X) (he : ∀ j, j < 6 → Y j = X j) : Six wr b Y :=
  ⟨fun j hj => by rw [he j hj]; exact h.cell j hj, h.froz⟩
/-- All six places are written. -/
theorem Six.put {w : World} {b : Nat} {X : Nat → Nat} (h : Six w b X) (Y : Nat → Nat) : Six ((((((w.setCell ⟨b, 0, none⟩ (.int .u64 (Y 0))).setCell ⟨b, 1, none⟩ (.int .u64 (Y 1))).setCell ⟨b, 2, none⟩ (.int .u64 (Y 2))).setCell ⟨b, 3, none⟩ (.int .u64 (Y 3))).setCell ⟨b, 4, none⟩ (.int .u64 (Y 4))).setCell ⟨b, 5, none⟩ (.int .u64 (Y 5))) b Y where
  cell := fun j hj => by
    have c := h.cells
    have : j = 0 ∨ j = 1 ∨ j = 2 ∨ j = 3 ∨ j = 4 ∨ j = 5 := by omega
    rcases this with rfl | rfl | rfl | rfl | rfl | rfl <;> simp [go_sem, c]
  froz := fun j => by simp only [World.frozen?_setCell]; exact h.froz j
theorem Six.put_other {w : World} {b c : Nat} {X Y : Nat → Nat} (h : Six w c X) (hn : c ≠ b) : Six ((((((w.setCell ⟨b, 0, none⟩ (.int .u64 (Y 0))).setCell ⟨b, 1, none⟩ (.int .u64 (Y 1))).setCell ⟨b, 2, none⟩ (.int .u64 (Y 2))).setCell ⟨b, 3, none⟩ (.int .u64 (Y 3))).setCell ⟨b, 4, none⟩ (.int .u64 (Y 4))).setCell ⟨b, 5, none⟩ (.int .u64 (Y 5))) c X :=
  (((((h.other hn).other hn).other hn).other hn).other hn).other hn
theorem Ext.put {a w : World} {b : Nat} {Y : Nat → Nat} (h : Ext a w) (hb : a.heap.size ≤ b) : Ext a ((((((w.setCell ⟨b, 0, none⟩ (.int .u64 (Y 0))).setCell ⟨b, 1, none⟩ (.int .u64 (Y 1))).setCell ⟨b, 2, none⟩ (.int .u64 (Y 2))).setCell ⟨b, 3, none⟩ (.int .u64 (Y 3))).setCell ⟨b, 4, none⟩ (.int .u64 (Y 4))).setCell ⟨b, 5, none⟩ (.int .u64 (Y 5))) :=
  (((((h.setCell hb _).setCell hb _).setCell hb _).setCell hb _).setCell hb _).setCell hb _

/-- Block b is just six places. -/
def six (X : Nat → Nat) : Array Value := #[.int .u64 (X 0), .int .u64 (X 1), .int .u64 (X 2), .int .u64 (X 3), .int .u64 (X 4), .int .u64 (X 5)]
def Blk (wr : World) (b : Nat) (X : Nat → Nat) : Prop := ∃ T, wr.heap[b]? = some (.cells (six X) T (0, 0))
theorem Blk.six {wr : World} {b : Nat} {X : Nat → Nat} (h : Blk wr b X) : Six wr b X := by
  obtain ⟨T, h⟩ := h
  refine ⟨fun j hj => ?_, fun j => ?_⟩
  · have : j = 0 ∨ j = 1 ∨ j = 2 ∨ j = 3 ∨ j = 4 ∨ j = 5 := by omega
    rcases this with rfl | rfl | rfl | rfl | rfl | rfl <;> simp [World.cell?, h, Go.Proofs.YtogfiekbikechaaGreatDoor.six]
  · simp [World.frozen?, h]
theorem Blk.lt {wr : World} {b : Nat} {X : Nat → Nat} (h : Blk wr b X) : b < wr.heap.size := h.six.lt
theorem Blk.later {w wr : World} {b : Nat} {X : Nat → Nat} (h : Blk w b X) (hx : Ext w wr) : Blk wr b X := by
  have hl := h.lt
  obtain ⟨T, h⟩ := h
  exact ⟨T, (hx.bel.block b hl).trans h⟩
theorem blk_new (w : World) (X : Nat → Nat) (T : TypeId) : Blk (w.alloc (.cells #[.int .u64 (X 0), .int .u64 (X 1), .int .u64 (X 2), .int .u64 (X 3), .int .u64 (X 4), .int .u64 (X 5)] T)) w.heap.size X :=
  ⟨T, by unfold World.alloc; simp [Go.Proofs.YtogfiekbikechaaGreatDoor.six]⟩
theorem Blk.of_eq {wr : World} {b : Nat} {X Y : Nat → Nat} (h : Blk wr b X) (he : ∀ j, j < 6 → Y j = X j) : Blk wr b Y := by
  obtain ⟨T, h⟩ := h
  refine ⟨T, ?_⟩
  rw [h]; unfold Go.Proofs.YtogfiekbikechaaGreatDoor.six
  rw [he 0 (by omega), he 1 (by omega), he 2 (by omega), he 3 (by omega), he 4 (by omega), he 5 (by omega)]
theorem Blk.row {w : World} {b : Nat} {X : Nat → Nat} (h : Blk w b X) (Y : Nat → Nat) : Blk (w.setRow b (Go.Proofs.YtogfiekbikechaaGreatDoor.six Y)) b Y := by
  obtain ⟨T, h⟩ := h
  exact ⟨T, setRow_heap w b _ _ T _ h⟩
theorem Six.row {w : World} {b c : Nat} {X : Nat → Nat} {cs : Array Value} (h : Six w c X) (hn : c ≠ b) : Six (w.setRow b cs) c X where
  cell := fun j hj => by rw [← h.cell j hj]; simp only [World.cell?, setRow_other w b c cs hn]
  froz := fun j => by rw [← h.froz j]; simp only [World.frozen?, setRow_other w b c cs hn]
theorem Ext.trans' {a w w' : World} (h : Ext a w) (k : Below a.heap.size w w') : Ext a w' := ⟨h.bel.trans k⟩
theorem Ext.row {a w : World} {b : Nat} {cs : Array Value} (h : Ext a w) (hb : a.heap.size ≤ b) : Ext a (w.setRow b cs) :=
  h.trans' ⟨rfl, rfl, rfl, by simp [World.setRow], fun k hk => setRow_other w b k cs (by omega)⟩
theorem Blk.set0 {w : World} {b : Nat} {X Y : Nat → Nat} (h : Blk w b X) {v : Value} (hv : v = .int .u64 (Y 0)) (he : ∀ j, 1 ≤ j → j < 6 → Y j = X j) : Blk (w.setCell ⟨b, 0, none⟩ v) b Y := by
  obtain ⟨T, h⟩ := h
  refine ⟨T, ?_⟩
  simp only [World.setCell, Array.getElem?_modify, h, if_true, Option.map_some]
  unfold Go.Proofs.YtogfiekbikechaaGreatDoor.six
  rw [he 1 (by omega) (by omega), he 2 (by omega) (by omega), he 3 (by omega) (by omega), he 4 (by omega) (by omega), he 5 (by omega) (by omega), hv]
  rfl
/-- Five places go one place up. -/
def upX (X : Nat → Nat) (j : Nat) : Nat := if j = 0 then X 0 else X (j - 1)
end Go.Proofs.YtogfiekbikechaaGreatDoor
