/- Layer 2: sums, products and quotients that are to be rounded, as plain functions (no program here). -/
import Derived.Test.YtoeahfddnjbhbaaGreatDoorGa
namespace Go.Proofs.YtoeahfddnjbhbaaGreatDoor

/-- Whether a mantissa and an exponent are a real's. -/
def validV (m x : Int) : Bool :=
  if m ≤ -16777216 then false else if 16777216 ≤ m then false else if x < -150 then false else if 150 < x then false
  else if m = 0 then decide (x = 0) else if x = -150 then true else if m ≤ -8388608 then true else decide (8388608 ≤ m)

/-- A number that is to be rounded. -/
structure Ex where
  neg : Bool
  man : Nat
  exp : Int
  more : Bool
def exV (m x : Int) : Ex := ⟨decide (m < 0), m.natAbs, x, false⟩
def Ex.rd (a : Ex) : Option (Int × Int) := roundV a.neg a.man a.exp a.more
def sumV (m x n y : Int) : Ex :=
  if m = 0 then exV n y else if n = 0 then exV m x
  else if x < y then (if 32 < y - x then exV n y else exV (n * 2 ^ (y - x).toNat + m) x)
  else (if 32 < x - y then exV m x else exV (m * 2 ^ (x - y).toNat + n) y)
def prodV (m x n y : Int) : Ex := exV (m * n) (x + y)
/-- The leading zeros of 64 bits. -/
def lzV (m : Nat) : Nat := 64 - nb m
def quotV (m x n y : Int) : Ex :=
  ⟨decide (m < 0) != decide (n < 0), m.natAbs * 2 ^ lzV m.natAbs / n.natAbs, x - lzV m.natAbs - y, decide (m.natAbs * 2 ^ lzV m.natAbs % n.natAbs ≠ 0)⟩
def placeV (m x : Int) : Int := if m = 0 then 0 else if m < 0 then m - (x - -150) * 8388608 else m + (x - -150) * 8388608
/-- The real with an index that is not negative. -/
def atP (i : Int) : Int × Int := if i = 0 then (0, 0) else (i - max (i / 8388608 - 1) 0 * 8388608, -150 + max (i / 8388608 - 1) 0)
def atV (i : Int) : Int × Int := if i < 0 then (-(atP (-i)).1, (atP (-i)).2) else atP i
def cmpI (a b : Int) : Int := if a < b then -1 else if b < a then 1 else 0
/-- The greatest integer that is at most twice a real. -/
def halvesV (m x : Int) : Int := if x < -1 then m / 2 ^ (-1 - x).toNat else m * 2 ^ (x + 1).toNat
/-- The greatest integer that is at most a real and p halves, if it is an integer of programs; else an error. -/
def wholeV (m x p : Int) : Int × Int :=
  if 31 < x then (0, 3) else if (halvesV m x + p) / 2 < -2147483647 then (0, 3) else if 2147483647 < (halvesV m x + p) / 2 then (0, 3) else ((halvesV m x + p) / 2, 0)
def wholeR (m x p : Int) : Int × Int := if validV m x then wholeV m x p else (0, 1)
/-- What an operation on two reals returns. -/
def combV (m x n y : Int) (a : Ex) : (Int × Int) × Int := if validV m x && validV n y then (okV a.rd, okE a.rd) else ((0, 0), 1)
/-- What Div returns. -/
def divV (m x n y : Int) : (Int × Int) × Int := if (validV m x && validV n y) && n == 0 then ((0, 0), 5) else combV m x n y (quotV m x n y)
end Go.Proofs.YtoeahfddnjbhbaaGreatDoor
