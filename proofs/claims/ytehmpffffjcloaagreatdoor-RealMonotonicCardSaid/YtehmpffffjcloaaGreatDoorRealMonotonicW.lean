/- The walk of RealMonotonic. -/
import Derived.Test.YtehmpffffjcloaaGreatDoorTm
import Derived.Test.YtehmpffffjcloaaGreatDoorGr
namespace Go.Proofs.YtehmpffffjcloaaGreatDoor.realMonotonic
open Go.RowKit
theorem ord_trivial {a b : (Int × Int) × Int} (h : a.2 ≠ 0) : Ord a b := fun e => absurd e h
/-- What Sqrt returns. -/
def sqE (m x : Int) : (Int × Int) × Int := if m < 0 then ((0, 0), 5) else sqrtV m x
theorem sq_any {m x : Int} (h : Vd m x) : Ret 42 #[.agg #[.int .i64 m, .int .i64 x]] (.tuple #[.agg #[.int .i64 (sqE m x).1.1, .int .i64 (sqE m x).1.2], .int .i64 (sqE m x).2]) := fun w => by
  unfold sqE
  by_cases c : m < 0
  · rw [if_pos c]; exact Sqrt_neg h c w
  · rw [if_neg c]; exact Sqrt_good h c w
theorem sqE_vd {m x : Int} (h : Vd m x) : Vd (sqE m x).1.1 (sqE m x).1.2 := by
  unfold sqE
  split
  · exact vd_zero
  · exact sqrt_vd h
theorem sqE_mono {m x n y : Int} (h : Vd m x) (k : Vd n y) (hle : sc m x ≤ sc n y) : Ord (sqE m x) (sqE n y) := by
  unfold sqE
  by_cases c : m < 0
  · rw [if_pos c]; exact ord_trivial (by simp)
  · rw [if_neg c]
    have c2 : ¬ n < 0 := fun e => by
      have e1 : sc n y < 0 := by have := sc_neg n y; simp [e] at this; exact this
      have e2 : ¬ sc m x < 0 := fun q => by have := sc_neg m x; simp [q] at this; exact c this
      omega
    rw [if_neg c2]
    exact sqrt_mono h k (by omega) hle
theorem div_vd {m x n y : Int} (h : Vd m x) (k : Vd n y) (n0 : n ≠ 0) : Vd (divV m x n y).1.1 (divV m x n y).1.2 := by
  obtain ⟨r, _, b⟩ := div_char h k n0
  rw [b]; exact resE_vd _ _
theorem add_vd {m x n y : Int} (h : Vd m x) (k : Vd n y) : Vd (addV m x n y).1.1 (addV m x n y).1.2 := by
  obtain ⟨r, _, b⟩ := add_char h k
  rw [b]; exact resE_vd _ _
theorem sub_vd {m x n y : Int} (h : Vd m x) (k : Vd n y) : Vd (subV m x n y).1.1 (subV m x n y).1.2 := by
  obtain ⟨r, _, b⟩ := sub_char h k
  rw [b]; exact resE_vd _ _
theorem mul_vd {m x n y : Int} (h : Vd m x) (k : Vd n y) : Vd (mulV m x n y).1.1 (mulV m x n y).1.2 := by
  obtain ⟨r, _, b⟩ := mul_char h k
  rw [b]; exact resE_vd _ _
theorem walk (a0 : Int) (w0 : (Lit.int .i64 a0).wf = true) (a1 : Int) (w1 : (Lit.int .i64 a1).wf = true) (a2 : Int) (w2 : (Lit.int .i64 a2).wf = true) (w : World) (ht : Tb w) :
    Calls Tryz.prog 12 #[.int .i64 a0, .int .i64 a1, .int .i64 a2] w fun e w' => e = .returned (.bool true) ∧ Ext w w' := by
  obtain ⟨pm, px, hp, A⟩ := at_vd w0
  obtain ⟨qm, qx, hq, B⟩ := at_vd w1
  obtain ⟨zm, zx, hz, C⟩ := at_vd w2
  have CM : Ret _ _ _ := fun w => Cmp_vd hp hq w
  by_cases hc : cmpV pm px qm qx > 0
  · have hle : sc qm qx ≤ sc pm px := by rw [cmpV_eq hp hq] at hc; unfold cmpI at hc; split at hc <;> (try split at hc) <;> omega
    by_cases z0 : zm ≤ 0
    · exact mono_sn w ht a0 a1 a2 _ pm px qm qx zm zx _ _ _ _ _ _ _ _ _ _ _ _ _ _ _ _ _ _ A B C CM hc (Add_vd qm qx zm zx) (Add_vd pm px zm zx) (sub_real zm zx pm px) (sub_real zm zx qm qx)
        (ordered_any (add_vd hq hz) (add_vd hp hz) (add_mono hq hp hz hle)) (ordered_any (sub_vd hz hp) (sub_vd hz hq) (sub_mono hq hp hz hle)) (sq_any hq) (sq_any hp) (ordered_any (sqE_vd hq) (sqE_vd hp) (sqE_mono hq hp hle)) z0 sanity_any
    · exact mono_sp w ht a0 a1 a2 _ pm px qm qx zm zx _ _ _ _ _ _ _ _ _ _ _ _ _ _ _ _ _ _ _ _ _ _ _ _ _ _ _ _ _ _ A B C CM hc (Add_vd qm qx zm zx) (Add_vd pm px zm zx) (sub_real zm zx pm px) (sub_real zm zx qm qx)
        (ordered_any (add_vd hq hz) (add_vd hp hz) (add_mono hq hp hz hle)) (ordered_any (sub_vd hz hp) (sub_vd hz hq) (sub_mono hq hp hz hle)) (sq_any hq) (sq_any hp) (ordered_any (sqE_vd hq) (sqE_vd hp) (sqE_mono hq hp hle)) z0
        (Mul_vd qm qx zm zx) (Mul_vd pm px zm zx) (div_real qm qx zm zx) (div_real pm px zm zx)
        (ordered_any (mul_vd hq hz) (mul_vd hp hz) (mul_mono hq hp hz (by omega) hle)) (ordered_any (div_vd hq hz (by omega)) (div_vd hp hz (by omega)) (div_mono hq hp hz (by omega) hle)) sanity_any
  · have hle : sc pm px ≤ sc qm qx := by rw [cmpV_eq hp hq] at hc; unfold cmpI at hc; split at hc <;> (try split at hc) <;> omega
    by_cases z0 : zm ≤ 0
    · exact mono_nn w ht a0 a1 a2 _ pm px qm qx zm zx _ _ _ _ _ _ _ _ _ _ _ _ _ _ _ _ _ _ A B C CM hc (Add_vd pm px zm zx) (Add_vd qm qx zm zx) (sub_real zm zx qm qx) (sub_real zm zx pm px)
        (ordered_any (add_vd hp hz) (add_vd hq hz) (add_mono hp hq hz hle)) (ordered_any (sub_vd hz hq) (sub_vd hz hp) (sub_mono hp hq hz hle)) (sq_any hp) (sq_any hq) (ordered_any (sqE_vd hp) (sqE_vd hq) (sqE_mono hp hq hle)) z0 sanity_any
    · exact mono_np w ht a0 a1 a2 _ pm px qm qx zm zx _ _ _ _ _ _ _ _ _ _ _ _ _ _ _ _ _ _ _ _ _ _ _ _ _ _ _ _ _ _ A B C CM hc (Add_vd pm px zm zx) (Add_vd qm qx zm zx) (sub_real zm zx qm qx) (sub_real zm zx pm px)
        (ordered_any (add_vd hp hz) (add_vd hq hz) (add_mono hp hq hz hle)) (ordered_any (sub_vd hz hq) (sub_vd hz hp) (sub_mono hp hq hz hle)) (sq_any hp) (sq_any hq) (ordered_any (sqE_vd hp) (sqE_vd hq) (sqE_mono hp hq hle)) z0
        (Mul_vd pm px zm zx) (Mul_vd qm qx zm zx) (div_real pm px zm zx) (div_real qm qx zm zx)
        (ordered_any (mul_vd hp hz) (mul_vd hq hz) (mul_mono hp hq hz (by omega) hle)) (ordered_any (div_vd hp hz (by omega)) (div_vd hq hz (by omega)) (div_mono hp hq hz (by omega) hle)) sanity_any
end Go.Proofs.YtehmpffffjcloaaGreatDoor.realMonotonic
