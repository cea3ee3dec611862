/- Layer 1: sums of lists are sums of sums, in any order. -/
import Derived.Test.YthbajdpblgclpaaMe
namespace Go.Proofs.Ythbajdpblgclpaa
open Go.RowKit

theorem wrap_add (s n : Int) : wrap64 (wrap64 s + n) = wrap64 (s + n) := by unfold wrap64; omega
theorem wrap_add' (s n : Int) : wrap64 (s + wrap64 n) = wrap64 (s + n) := by unfold wrap64; omega
theorem foldl_wrap (l : List Int) : ∀ s : Int, l.foldl (fun s n => wrap64 (s + n)) (wrap64 s) = wrap64 (s + l.sum) := by
  induction l with
  | nil => intro s; simp
  | cons x l ih =>
    intro s
    rw [List.foldl_cons, wrap_add, ih, List.sum_cons, Int.add_assoc]
theorem sumF_eq (l : List Int) : sumF l = wrap64 l.sum := by
  have h := foldl_wrap l 0
  rw [show wrap64 0 = 0 by unfold wrap64; omega, Int.zero_add] at h
  exact h
theorem okB_wrap {n : Int} (h : okB n = true) : wrap64 n = n := by
  have := okB_t.1 h; unfold wrap64; omega
theorem sums_both {l m : List Int} (h : sumE l = 0) (k : sumE m = 0) : sumV (l ++ m) = addV (sumV l) (sumV m) ∧ sumE (l ++ m) = addE (sumV l) (sumV m) := by
  have hl : l.all okB = true := by
    rcases Bool.eq_false_or_eq_true (l.all okB) with x | x
    · exact x
    · rw [(sumE_bad x).1] at h; exact absurd h (by decide)
  have hm : m.all okB = true := by
    rcases Bool.eq_false_or_eq_true (m.all okB) with x | x
    · exact x
    · rw [(sumE_bad x).1] at k; exact absurd k (by decide)
  have hb : (l ++ m).all okB = true := by rw [List.all_append, hl, hm]; rfl
  rw [(sumE_ok hl).1] at h
  rw [(sumE_ok hm).1] at k
  have ol : okB (sumF l) = true := by
    unfold fitE at h; split at h
    · assumption
    · exact absurd h (by decide)
  have om : okB (sumF m) = true := by
    unfold fitE at k; split at k
    · assumption
    · exact absurd k (by decide)
  have e : sumF (l ++ m) = sumF l + sumF m := by
    have h1 := okB_t.1 ol; have h2 := okB_t.1 om
    have h3 : wrap64 (sumF l + sumF m) = sumF l + sumF m := by unfold wrap64; omega
    rw [← h3]
    rw [sumF_eq (l ++ m), List.sum_append, sumF_eq l, sumF_eq m, wrap_add, wrap_add']
  rw [(sumE_ok hb).1, (sumE_ok hb).2, (sumE_ok hl).2, (sumE_ok hm).2, e, (fit_ok ol).1, (fit_ok om).1, (addV_ok ol om).1, (addV_ok ol om).2]
  exact ⟨rfl, rfl⟩
theorem sums_back (l : List Int) : sumV l.reverse = sumV l ∧ sumE l.reverse = sumE l := by
  have e : sumF l.reverse = sumF l := by rw [sumF_eq, sumF_eq, List.sum_reverse]
  have a : l.reverse.all okB = l.all okB := by rw [List.all_reverse]
  exact ⟨by unfold sumV; rw [e, a], by unfold sumE; rw [e, a]⟩
end Go.Proofs.Ythbajdpblgclpaa
