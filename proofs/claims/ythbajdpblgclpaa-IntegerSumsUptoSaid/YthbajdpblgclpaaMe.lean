/- Layer 1: plain facts on sums of lists. -/
import Derived.Test.YthbajdpblgclpaaMc
namespace Go.Proofs.Ythbajdpblgclpaa
open Go.RowKit

/-- The sum as Go reckons it, of the first elements on. -/
def sumF (l : List Int) : Int := l.foldl (fun s n => wrap64 (s + n)) 0
def sumE (l : List Int) : Int := if l.all okB then fitE (sumF l) else 1
def sumV (l : List Int) : Int := if l.all okB then fitV (sumF l) else 0
theorem take_snocI (l : List Int) (k : Nat) (h : k < l.length) : l.take (k + 1) = l.take k ++ [l.getD k 0] := by
  rw [List.take_succ_eq_append_getElem h]; simp [List.getD, h]
theorem sumF_snoc (l : List Int) (k : Nat) (h : k < l.length) : sumF (l.take (k + 1)) = wrap64 (sumF (l.take k) + l.getD k 0) := by
  rw [take_snocI l k h]; unfold sumF; rw [List.foldl_append]; rfl
theorem all_snoc (l : List Int) (k : Nat) (h : k < l.length) : (l.take (k + 1)).all okB = ((l.take k).all okB && okB (l.getD k 0)) := by
  rw [take_snocI l k h, List.all_append]; simp
theorem all_not {l : List Int} {k : Nat} (h : k < l.length) (hk : okB (l.getD k 0) = false) : l.all okB = false := by
  rw [List.all_eq_false]
  exact ⟨l.getD k 0, by simp [List.getD, h], by rw [hk]; simp⟩
theorem take_all (l : List Int) {k : Nat} (h : l.length ≤ k) : l.take k = l := List.take_of_length_le h
theorem sumF_nil : sumF [] = 0 := rfl
theorem sumE_bad {l : List Int} (h : l.all okB = false) : sumE l = 1 ∧ sumV l = 0 := by simp [sumE, sumV, h]
theorem sumE_ok {l : List Int} (h : l.all okB = true) : sumE l = fitE (sumF l) ∧ sumV l = fitV (sumF l) := by simp [sumE, sumV, h]
end Go.Proofs.Ythbajdpblgclpaa
