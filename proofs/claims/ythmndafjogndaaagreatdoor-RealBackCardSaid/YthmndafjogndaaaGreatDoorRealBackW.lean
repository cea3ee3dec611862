/- The walk of RealBack. -/
import Derived.Test.YthmndafjogndaaaGreatDoorKr
import Derived.Test.YthmndafjogndaaaGreatDoorGr
namespace Go.Proofs.YthmndafjogndaaaGreatDoor.realBack
open Go.RowKit

theorem cat_text (s : List UInt8) (G : Nat) : (bs s).extract 0 G ++ ⟨#[48]⟩ ++ (bs s).extract (G + 1) s.length = bs (s.take G ++ [48] ++ s.drop (G + 1)) := by
  rw [bs_extract, bs_extract, show (⟨#[48]⟩ : ByteArray) = bs [48] from rfl, bs_append, bs_append, Nat.sub_zero, List.drop_zero]
  congr 2
  rw [List.take_of_length_le (by rw [List.length_drop]; omega)]
theorem walk (i : Int) (hi : (Lit.int .i64 i).wf = true) (w : World) (ht : Tb w) :
    Calls Tryz.prog 9 #[.int .i64 i] w fun e w' => e = .returned (.bool true) ∧ Ext w w' := by
  obtain ⟨m, x, hv, A⟩ := at_vd hi
  by_cases m0 : m = 0
  · subst m0
    obtain rfl : x = 0 := hv.2.2.2.1 rfl
    exact back_zero w ht i A
  · obtain ⟨F, G, o, f1, f2, f3, f4, f5, f6, f7, f8, f9, f10, f11⟩ := print_facts hv m0
    obtain ⟨s, hs⟩ : ∃ s, printV m x = s := ⟨_, rfl⟩
    rw [hs] at f1 f2 f4 f5 f6 f9 f10
    refine back_walk w ht i m x (rparseV o).1 (rparseV o).2 s F G A ?_ ?_ ?_ f1 (fun u => digitsOf_any s (by omega) _ _ f2 u) f3 f4 f6 (by simp [m0]) ?_
    · intro u hu
      have := print_any m x (vd_iff.2 hv) m0 f11 u hu.p
      rw [hs] at this
      exact this
    · intro u hu
      have := parse_any s (by omega) u hu.r
      rw [f9, f10] at this
      exact this
    · intro u hu
      rw [cat_text, ← f5]
      have hlo : o.length ≤ 9223372036854775807 := by
        rw [f5, List.length_append, List.length_append, List.length_take, List.length_drop, List.length_singleton]; omega
      have := parse_any o hlo u hu.r
      rw [f7] at this
      exact this
    · cases e : ((rparseV o).1 == m && (rparseV o).2 == x)
      · rfl
      · exfalso
        rw [Bool.and_eq_true, beq_iff_eq, beq_iff_eq] at e
        exact f8 (Prod.ext e.1 e.2)
end Go.Proofs.YthmndafjogndaaaGreatDoor.realBack
