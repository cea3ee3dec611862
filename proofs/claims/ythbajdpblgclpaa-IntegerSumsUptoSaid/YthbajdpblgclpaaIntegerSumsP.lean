/- The statement IntegerSums, where what it reads is of the bulk given: the law returns true; the input reads as it did. -/
import Derived.Test.YthbajdpblgclpaaRows
import Derived.Test.YthbajdpblgclpaaLaw
import Derived.Test.YthbajdpblgclpaaIntegerSumsW
import Derived.Test.YthbajdpblgclpaaInts
import Derived.ProofKit
import Derived.JoinedCond
import Derived.Deep.CondSized
namespace Go.Proofs.Ythbajdpblgclpaa.integerSums
open Go.ChangeShapes Go.WideShapes Go.ChangeAt Go.RowKit

theorem own : ownKnob Try.prog.godebug = none := by kernel_rfl
theorem laidOut : laidOutB Try.prog = true := by kernel_rfl
theorem cells0 : Try.prog.cellsOf 3 = 1 := by kernel_rfl
theorem bytes0 : Try.prog.bytesOf 3 = 8 := by kernel_rfl
theorem reads : (Try.f12.params.toList.all fun t => Try.prog.readableRec t && decide (t < Try.prog.types.size)) = true := by kernel_rfl
theorem readsEach (t : TypeId) (h : t ∈ Try.f12.params.toList) : Try.prog.readableRec t = true ∧ t < Try.prog.types.size := by
  have := List.all_eq_true.1 reads t h
  simpa using this

theorem one_le {H : Type} (d : DataW H) : 1 ≤ Rows.uptoBulk d := by
  cases d with
  | lit l => cases l <;> simp [Rows.uptoBulk]
  | nil => simp [Rows.uptoBulk]
  | ptr d => simp [Rows.uptoBulk]
  | slice elems spare => simp [Rows.uptoBulk]
  | agg parts => simp [Rows.uptoBulk]
  | iface t d => simp [Rows.uptoBulk]
  | map entries => simp [Rows.uptoBulk]
  | held h => simp [Rows.uptoBulk]
theorem many_le {H : Type} (l : List (DataW H)) : l.length ≤ Rows.uptoBulkAll l := by
  induction l with
  | nil => simp [Rows.uptoBulkAll]
  | cons x r ih => have := one_le x; simp only [Rows.uptoBulkAll, List.length_cons]; omega
/-- A slice that is read is no longer than its bulk. -/
theorem len_le {H : Type} {l : List Int} {d : DataW H} (h : l = [] ∨ ∃ sp, d = .slice (lits .i64 l) sp) : l.length ≤ Rows.uptoBulk d := by
  rcases h with rfl | ⟨sp, rfl⟩
  · simp
  · have := many_le (H := H) (lits .i64 l)
    simp only [lits, List.length_map] at this
    simp only [Rows.uptoBulk, lits]
    omega

set_option maxRecDepth 100000 in
theorem lifted (os : Os) (started : os.Started) (H : Type) (enc : TypeId × Value → H) (F : Stop.Interp) :
    ReturnsInHanded {} Try.checked os 12 .any ((Rows.OpenSpec.upto Rows.integerSumsSpec).pre6 enc Try.prog Try.f12 Rows.integerSumsUptoRow.domain false) (((Rows.OpenSpec.upto Rows.integerSumsSpec).at F).post enc Try.prog Try.f12 false true false false) := by
  refine returnsInHanded_of_cond_sized (C := Try.checked) (s := Rows.OpenSpec.upto Rows.integerSumsSpec) (k := Rows.uptoSmall) rfl own started (by kernel_rfl) Try.func12
    (OpenSpec.witness (enc := enc) (C := Try.checked) (s := Rows.OpenSpec.upto Rows.integerSumsSpec) (k := Rows.uptoSmall) rfl false ⟨#[], #[.slice none 0 0, .slice none 0 0], []⟩ 8 (by kernel_rfl) (by kernel_rfl) (by kernel_rfl)
      (x := ([.nil, .nil], [], [])) (by kernel_rfl) rfl (by kernel_rfl)) ?_
  intro W base args ds gs before hval0 hW _ hk hsz0 _
  have hsz : (DataW.weightsEach Try.prog (Try.f12.params.toList ++ Rows.integerSumsSpec.plain.varTypes Try.prog) (ds ++ gs)).all (· ≤ reachBytes) = true := hsz0
  clear hsz0
  have hval : ∀ (j : Nat) t v, Try.f12.params[j]? = some t → args[j]? = some v → Value.okWide Try.prog W .any base t v := hval0
  have hW' : DataW.Whole enc Try.prog Try.f12.params.toList Rows.integerSumsSpec.vars false W args.toList ds gs before := hW
  have hK := hW'
  obtain ⟨p, q, hA, hV, rfl, hfz, hnd⟩ := hK
  clear hval0 hW
  rw [Try.params12] at hA hval hsz
  obtain ⟨v0, vs0, d0, ds0, p0, q0, hargs, rfl, rfl, h0, r0⟩ := trodAll_cons hA
  obtain ⟨v1, vs1, d1, ds1, p1, q1, rfl, rfl, rfl, h1, r1⟩ := trodAll_cons r0
  obtain ⟨rfl, rfl, rfl⟩ := trodAll_nil r1
  obtain rfl : args = #[v0, v1] := by cases args; simp_all
  obtain ⟨rfl, rfl⟩ := trodVars_none hV
  obtain ⟨l0, g0, b0⟩ := open_intsArg2 (j := 0) Try.underlying29 Try.underlying3 cells0 bytes0 (hval 0 29 v0 rfl rfl) h0 hsz rfl rfl
  obtain ⟨l1, g1, b1⟩ := open_intsArg2 (j := 1) Try.underlying29 Try.underlying3 cells0 bytes0 (hval 1 29 v1 rfl rfl) h1 hsz rfl rfl
  have hb : l0.length + l1.length ≤ 1048576 := by
    have h := of_decide_eq_true hk
    simp only [List.cons_append, List.nil_append, Rows.uptoBulkAll] at h
    have := len_le b0
    have := len_le b1
    omega
  refine (walk v0 v1 l0 l1 W g0 g1 hb).mono fun e W' ⟨he, hg⟩ => ?_
  subst he
  exact ⟨_, rfl, law_post laidOut rfl Try.underlying4 rfl readsEach hW' hg rfl rfl rfl⟩

theorem over : Rows.integerSumsUptoRow.holds Try.pinned (Rows.OpenSpec.upto Rows.integerSumsSpec) :=
  OpenClaim.holds_of_cond 12 Try.f12 rfl rfl rfl rfl rfl rfl rfl ⟨rfl, rfl, rfl, rfl, rfl⟩ rfl rfl rfl rfl rfl (by kernel_rfl) Try.func12 (by kernel_rfl)
    (of_decide_eq_true (by kernel_rfl)) (by unfold Func.isWrapper; first | (rw [if_pos (by decide +kernel)]; kernel_rfl) | (rw [if_neg (by decide +kernel)]; exact ⟨rfl, rfl⟩))
    (fun os started H enc _ F => lifted os started H enc F)

/-- The statement. -/
theorem proved : Rows.IntegerSumsUptoSaid :=
  over
#print axioms proved
end Go.Proofs.Ythbajdpblgclpaa.integerSums
