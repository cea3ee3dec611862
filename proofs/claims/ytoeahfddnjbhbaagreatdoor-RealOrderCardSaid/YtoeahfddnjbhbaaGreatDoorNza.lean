/- Layer 2: the parts of a numeric string. -/
import Derived.Test.YtoeahfddnjbhbaaGreatDoorGd
namespace Go.Proofs.YtoeahfddnjbhbaaGreatDoor
open Go.RowKit

/-- What read returns, whether the string is numeric or not. -/
structure Got where
  n : Num
  ok : Bool
def tailG (neg : Bool) (dd : List UInt8) (sc : Int) (ok1 : Bool) (s3 : List UInt8) : Got :=
  if (cut1 101 s3).2 then ⟨numOf neg dd (sc + (expV (cut1 101 s3).1).getD 0), ok1 && (expV (cut1 101 s3).1).isSome⟩
  else ⟨numOf neg dd sc, ok1 && decide (s3 = [])⟩
def readG (s : List UInt8) : Got :=
  let c := cut1 45 s
  let d := digs c.1
  let p := cut1 46 (rest c.1)
  if p.2 then tailG c.2 (d ++ digs p.1) (-((digs p.1).length : Int)) (decide (d ≠ []) && decide (digs p.1 ≠ [])) (rest p.1)
  else tailG c.2 d 0 (decide (d ≠ [])) (rest c.1)
theorem tail_some {neg ok1 : Bool} {dd : List UInt8} {sc : Int} {s3 : List UInt8} (h : ok1 = true) : (tailV neg dd sc s3).isSome = (tailG neg dd sc ok1 s3).ok ∧ (∀ n, tailV neg dd sc s3 = some n → (tailG neg dd sc ok1 s3).n = n) := by
  subst h
  unfold tailV tailG
  simp only [Bool.true_and]
  cases hc : (cut1 101 s3).2 with
  | true =>
    simp only [if_true]
    cases he : expV (cut1 101 s3).1 with
    | none => simp
    | some e => simp
  | false =>
    simp only [Bool.false_eq_true, if_false]
    by_cases h3 : s3 = []
    · simp [h3]
    · simp [h3]
theorem readG_readV {s : List UInt8} (h : s.length ≤ 60) : (readV s).isSome = (readG s).ok ∧ (∀ n, readV s = some n → (readG s).n = n) := by
  unfold readV readG
  simp only
  rw [if_neg (by omega)]
  by_cases hd : digs (cut1 45 s).1 = []
  · rw [if_pos hd]
    constructor
    · cases (cut1 46 (rest (cut1 45 s).1)).2 <;> simp [tailG, hd] <;> split <;> simp
    · intro n hn; cases hn
  · rw [if_neg hd]
    cases hp : (cut1 46 (rest (cut1 45 s).1)).2 with
    | false =>
      simp only [Bool.false_eq_true, if_false]
      exact tail_some (by simp [hd])
    | true =>
      simp only [if_true]
      by_cases hf : digs (cut1 46 (rest (cut1 45 s).1)).1 = []
      · rw [if_pos hf]
        constructor
        · simp [tailG, hf]; split <;> simp
        · intro n hn; cases hn
      · rw [if_neg hf]
        exact tail_some (by simp [hd, hf])
end Go.Proofs.YtoeahfddnjbhbaaGreatDoor
