/- Layer 2: numeric strings, as the program reads and rounds them. -/
/- Layer 2: numeral.rounded in all cases, and Parse. -/
/- Layer 2: validity, indices and exact numbers, as the program makes them. -/
import Derived.Test.YtogfiekbikechaaGreatDoorGf
import Derived.Test.YtogfiekbikechaaGreatDoorGe
import Derived.Test.YtogfiekbikechaaGreatDoorGd
import Derived.Outline
import Derived.Test.YtogfiekbikechaaGreatDoorGc
import Derived.Deep.QuietTactic
import Derived.BigQuiet
namespace Go.Proofs.YtogfiekbikechaaGreatDoor
open Go.RowKit

theorem expV_bd {s : List UInt8} {e : Int} (h : expV s = some e) : -10000 ≤ e ∧ e ≤ 10000 := by
  have hE : expV s = if digs (if (cut1 45 s).2 then (cut1 45 s).1 else (cut1 43 s).1) = [] ∨ rest (if (cut1 45 s).2 then (cut1 45 s).1 else (cut1 43 s).1) ≠ [] then none
      else some (if (cut1 45 s).2 then -(expF (if (cut1 45 s).2 then (cut1 45 s).1 else (cut1 43 s).1)) else expF (if (cut1 45 s).2 then (cut1 45 s).1 else (cut1 43 s).1)) := rfl
  rw [hE] at h
  generalize (if (cut1 45 s).2 then (cut1 45 s).1 else (cut1 43 s).1) = d at h
  by_cases hc : digs d = [] ∨ rest d ≠ []
  · rw [if_pos hc] at h; cases h
  · rw [if_neg hc] at h
    have hr : rest d = [] := by
      by_cases hr : rest d = []
      · exact hr
      · exact absurd (.inr hr) hc
    have ha := digs_all d
    rw [whole_digs hr] at ha
    have := expF_bd ha
    split at h <;> cases h <;> omega

set_option maxHeartbeats 1000000 in
theorem read_any (s : List UInt8) (hl : s.length ≤ 60) (w : World) :
    Calls Tryz.prog 83 #[.string (bs s)] w fun e w' => e = .returned (.tuple #[.agg #[.bool (readG s).n.neg, .string (bs (readG s).n.digits), .int .i64 (readG s).n.scale], .bool (readG s).ok]) ∧ Ext w w' := by
  have P1 := cutP s 45
  have l1 := cut1_le 45 s
  unfold readG
  simp only
  generalize cut1 45 s = c at *
  obtain ⟨s1, neg⟩ := c
  simp only at P1 l1 ⊢
  have C1 := cutDigits_any s1 (by omega)
  have l2 := digs_len s1
  generalize digs s1 = d at *
  generalize rest s1 = s2 at *
  have P2 := cutP s2 46
  have l3 := cut1_le 46 s2
  generalize cut1 46 s2 = p at *
  obtain ⟨af, fl⟩ := p
  simp only at P2 l3 ⊢
  cases fl with
  | false =>
    simp only [Bool.false_eq_true, if_false]
    unfold tailG
    have P3 := cutP s2 101
    have l5 := cut1_le 101 s2
    have TZ := trimZ d
    generalize cut1 101 s2 = q at *
    obtain ⟨ag, g⟩ := q
    simp only at P3 l5 ⊢
    cases g with
    | false =>
      simp only [Bool.false_eq_true, if_false]
      by_cases hs3 : s2 = []
      · skip
        by_cases hd : d = []
        · have hok : ((decide (d ≠ [])) && decide (s2 = [])) = false := by simp [hd, hs3]
          rw [hok]
          exact rd_e_no_end s s1 d s2 af ag _ neg 0 hl hd hs3 P1 C1 P2 P3 TZ w
        · have hok : ((decide (d ≠ [])) && decide (s2 = [])) = true := by simp [hd, hs3]
          rw [hok]
          exact rd_s_no_end s s1 d s2 af ag _ neg 0 hl hd hs3 P1 C1 P2 P3 TZ w
      · skip
        by_cases hd : d = []
        · have hok : ((decide (d ≠ [])) && decide (s2 = [])) = false := by simp [hd, hs3]
          rw [hok]
          exact rd_e_no_more s s1 d s2 af ag _ neg 0 hl hd hs3 P1 C1 P2 P3 TZ w
        · have hok : ((decide (d ≠ [])) && decide (s2 = [])) = false := by simp [hd, hs3]
          rw [hok]
          exact rd_s_no_more s s1 d s2 af ag _ neg 0 hl hd hs3 P1 C1 P2 P3 TZ w
    | true =>
      simp only [if_true]
      have RE := readExponent_any ag (by omega)
      cases he : expV ag with
      | none =>
        rw [he] at RE
        simp only [Option.getD_none, Option.isSome_none] at RE ⊢
        rw [Int.add_zero]
        by_cases hd : d = []
        · have hok : ((decide (d ≠ [])) && false) = false := by simp [hd]
          rw [hok]
          exact rd_e_no_bad s s1 d s2 af ag _ neg 0 hl hd (by omega) (by omega) P1 C1 P2 P3 RE TZ w
        · have hok : ((decide (d ≠ [])) && false) = false := by simp [hd]
          rw [hok]
          exact rd_s_no_bad s s1 d s2 af ag _ neg 0 hl hd (by omega) (by omega) P1 C1 P2 P3 RE TZ w
      | some e =>
        have hb := expV_bd he
        rw [he] at RE
        simp only [Option.getD_some, Option.isSome_some] at RE ⊢
        rw [Int.zero_add]
        by_cases hd : d = []
        · have hok : ((decide (d ≠ [])) && true) = false := by simp [hd]
          rw [hok]
          exact rd_e_no_exp s s1 d s2 af ag _ neg e hl hd hb.1 hb.2 P1 C1 P2 P3 RE TZ w
        · have hok : ((decide (d ≠ [])) && true) = true := by simp [hd]
          rw [hok]
          exact rd_s_no_exp s s1 d s2 af ag _ neg e hl hd hb.1 hb.2 P1 C1 P2 P3 RE TZ w
  | true =>
    simp only [if_true]
    have C2 := cutDigits_any af (by omega)
    have l4 := digs_len af
    generalize digs af = fr at *
    generalize rest af = r at *
    unfold tailG
    have P3 := cutP r 101
    have l5 := cut1_le 101 r
    have TZ := trimZ (d ++ fr)
    generalize cut1 101 r = q at *
    obtain ⟨ag, g⟩ := q
    simp only at P3 l5 ⊢
    cases g with
    | false =>
      simp only [Bool.false_eq_true, if_false]
      by_cases hs3 : r = []
      · skip
        by_cases hd : d = []
        · by_cases hf : fr = []
          · have hok : ((decide (d ≠ []) && decide (fr ≠ [])) && decide (r = [])) = false := by simp [hd, hf, hs3]
            rw [hok]
            exact rd_e_none_end s s1 d s2 af fr r ag _ neg 0 hl hd hf (by omega) (by omega) hs3 P1 C1 P2 C2 P3 TZ w
          · have hok : ((decide (d ≠ []) && decide (fr ≠ [])) && decide (r = [])) = false := by simp [hd, hf, hs3]
            rw [hok]
            exact rd_e_some_end s s1 d s2 af fr r ag _ neg 0 hl hd hf (by omega) (by omega) hs3 P1 C1 P2 C2 P3 TZ w
        · by_cases hf : fr = []
          · have hok : ((decide (d ≠ []) && decide (fr ≠ [])) && decide (r = [])) = false := by simp [hd, hf, hs3]
            rw [hok]
            exact rd_s_none_end s s1 d s2 af fr r ag _ neg 0 hl hd hf (by omega) (by omega) hs3 P1 C1 P2 C2 P3 TZ w
          · have hok : ((decide (d ≠ []) && decide (fr ≠ [])) && decide (r = [])) = true := by simp [hd, hf, hs3]
            rw [hok]
            exact rd_s_some_end s s1 d s2 af fr r ag _ neg 0 hl hd hf (by omega) (by omega) hs3 P1 C1 P2 C2 P3 TZ w
      · skip
        by_cases hd : d = []
        · by_cases hf : fr = []
          · have hok : ((decide (d ≠ []) && decide (fr ≠ [])) && decide (r = [])) = false := by simp [hd, hf, hs3]
            rw [hok]
            exact rd_e_none_more s s1 d s2 af fr r ag _ neg 0 hl hd hf (by omega) (by omega) hs3 P1 C1 P2 C2 P3 TZ w
          · have hok : ((decide (d ≠ []) && decide (fr ≠ [])) && decide (r = [])) = false := by simp [hd, hf, hs3]
            rw [hok]
            exact rd_e_some_more s s1 d s2 af fr r ag _ neg 0 hl hd hf (by omega) (by omega) hs3 P1 C1 P2 C2 P3 TZ w
        · by_cases hf : fr = []
          · have hok : ((decide (d ≠ []) && decide (fr ≠ [])) && decide (r = [])) = false := by simp [hd, hf, hs3]
            rw [hok]
            exact rd_s_none_more s s1 d s2 af fr r ag _ neg 0 hl hd hf (by omega) (by omega) hs3 P1 C1 P2 C2 P3 TZ w
          · have hok : ((decide (d ≠ []) && decide (fr ≠ [])) && decide (r = [])) = false := by simp [hd, hf, hs3]
            rw [hok]
            exact rd_s_some_more s s1 d s2 af fr r ag _ neg 0 hl hd hf (by omega) (by omega) hs3 P1 C1 P2 C2 P3 TZ w
    | true =>
      simp only [if_true]
      have RE := readExponent_any ag (by omega)
      cases he : expV ag with
      | none =>
        rw [he] at RE
        simp only [Option.getD_none, Option.isSome_none] at RE ⊢
        by_cases hd : d = []
        · by_cases hf : fr = []
          · have hok : ((decide (d ≠ []) && decide (fr ≠ [])) && false) = false := by simp [hd, hf]
            rw [hok]
            exact rd_e_none_bad s s1 d s2 af fr r ag _ neg 0 hl hd hf (by omega) (by omega) (by omega) (by omega) P1 C1 P2 C2 P3 RE TZ w
          · have hok : ((decide (d ≠ []) && decide (fr ≠ [])) && false) = false := by simp [hd, hf]
            rw [hok]
            exact rd_e_some_bad s s1 d s2 af fr r ag _ neg 0 hl hd hf (by omega) (by omega) (by omega) (by omega) P1 C1 P2 C2 P3 RE TZ w
        · by_cases hf : fr = []
          · have hok : ((decide (d ≠ []) && decide (fr ≠ [])) && false) = false := by simp [hd, hf]
            rw [hok]
            exact rd_s_none_bad s s1 d s2 af fr r ag _ neg 0 hl hd hf (by omega) (by omega) (by omega) (by omega) P1 C1 P2 C2 P3 RE TZ w
          · have hok : ((decide (d ≠ []) && decide (fr ≠ [])) && false) = false := by simp [hd, hf]
            rw [hok]
            exact rd_s_some_bad s s1 d s2 af fr r ag _ neg 0 hl hd hf (by omega) (by omega) (by omega) (by omega) P1 C1 P2 C2 P3 RE TZ w
      | some e =>
        have hb := expV_bd he
        rw [he] at RE
        simp only [Option.getD_some, Option.isSome_some] at RE ⊢
        by_cases hd : d = []
        · by_cases hf : fr = []
          · have hok : ((decide (d ≠ []) && decide (fr ≠ [])) && true) = false := by simp [hd, hf]
            rw [hok]
            exact rd_e_none_exp s s1 d s2 af fr r ag _ neg e hl hd hf (by omega) (by omega) hb.1 hb.2 P1 C1 P2 C2 P3 RE TZ w
          · have hok : ((decide (d ≠ []) && decide (fr ≠ [])) && true) = false := by simp [hd, hf]
            rw [hok]
            exact rd_e_some_exp s s1 d s2 af fr r ag _ neg e hl hd hf (by omega) (by omega) hb.1 hb.2 P1 C1 P2 C2 P3 RE TZ w
        · by_cases hf : fr = []
          · have hok : ((decide (d ≠ []) && decide (fr ≠ [])) && true) = false := by simp [hd, hf]
            rw [hok]
            exact rd_s_none_exp s s1 d s2 af fr r ag _ neg e hl hd hf (by omega) (by omega) hb.1 hb.2 P1 C1 P2 C2 P3 RE TZ w
          · have hok : ((decide (d ≠ []) && decide (fr ≠ [])) && true) = true := by simp [hd, hf]
            rw [hok]
            exact rd_s_some_exp s s1 d s2 af fr r ag _ neg e hl hd hf (by omega) (by omega) hb.1 hb.2 P1 C1 P2 C2 P3 RE TZ w

theorem read_long (s : List UInt8) (hl : 60 < s.length) (hl2 : s.length ≤ 9223372036854775807) (w : World) :
    Calls Tryz.prog 83 #[.string (bs s)] w fun e w' => e = .returned (.tuple #[.agg #[.bool false, .string ⟨#[]⟩, .int .i64 0], .bool false]) ∧ Ext w w' := by
  have zs : (bs s).size = s.length := rfl
  have h2 : (60 : Int) < s.length := by omega
  go_enter Tryz.func83, Tryz.ntmps83
  go_wp2
  refine bodyPost_ret (v := .tuple #[.agg #[.bool false, .string ⟨#[]⟩, .int .i64 0], .bool false]) ?_ rfl ⟨rfl, ?_⟩
  · simp [results, Tryz.results83, go_sem]
  · repeat (first | with_reducible exact Ext.refl _ | with_reducible refine Ext.alloc ?_ _ | with_reducible refine Ext.setCell ?_ (by simp) _)
end Go.Proofs.YtogfiekbikechaaGreatDoor

namespace Go.Proofs.YtogfiekbikechaaGreatDoor
open Go.RowKit

theorem num_empty (neg : Bool) (sc : Int) (h1 : -20000 ≤ sc) (h2 : sc ≤ 20000) (w : World) :
    Calls Tryz.prog 84 #[.agg #[.bool neg, .string ⟨#[]⟩, .int .i64 sc]] w fun e w' => e = .returned (.agg #[.int .i64 0, .int .i64 0]) ∧ Ext w w' := by
  have zs : (⟨#[]⟩ : ByteArray).size = 0 := rfl
  have zl : (⟨#[]⟩ : ByteArray).toList = [] := by rw [Lib.toList_data]
  go_enter Tryz.func84, Tryz.ntmps84
  go_wp2
  refine bodyPost_ret (v := .agg #[.int .i64 0, .int .i64 0]) ?_ rfl ⟨rfl, ?_⟩
  · simp [results, Tryz.results84, go_sem]
  · repeat (first | with_reducible exact Ext.refl _ | with_reducible refine Ext.alloc ?_ _ | with_reducible refine Ext.setCell ?_ (by simp) _)

theorem num_low (neg : Bool) (d : ByteArray) (sc : Int) (hd : d.size ≤ 60) (h1 : -20000 ≤ sc) (h2 : sc ≤ 20000) (_n1 : ¬ d.toList = []) (n2 : d.toList.isEmpty = false) (hp : (d.size : Int) + sc ≤ -46) (w : World) :
    Calls Tryz.prog 84 #[.agg #[.bool neg, .string d, .int .i64 sc]] w fun e w' => e = .returned (.agg #[.int .i64 0, .int .i64 0]) ∧ Ext w w' := by
  have b1 : (d.size : Int) ≤ 60 := by omega
  go_enter Tryz.func84, Tryz.ntmps84
  go_wp2
  refine bodyPost_ret (v := .agg #[.int .i64 0, .int .i64 0]) ?_ rfl ⟨rfl, ?_⟩
  · simp [results, Tryz.results84, go_sem]
  · repeat (first | with_reducible exact Ext.refl _ | with_reducible refine Ext.alloc ?_ _ | with_reducible refine Ext.setCell ?_ (by simp) _)

theorem num_high (neg : Bool) (d : ByteArray) (sc : Int) (hd : d.size ≤ 60) (h1 : -20000 ≤ sc) (h2 : sc ≤ 20000) (_n1 : ¬ d.toList = []) (n2 : d.toList.isEmpty = false) (hp1 : ¬ (d.size : Int) + sc ≤ -46) (hp : 53 < (d.size : Int) + sc) (w : World) :
    Calls Tryz.prog 84 #[.agg #[.bool neg, .string d, .int .i64 sc]] w fun e w' => e = RangePanic ∧ Ext w w' := by
  have b1 : (d.size : Int) ≤ 60 := by omega
  go_enter Tryz.func84, Tryz.ntmps84
  go_wp2
  all_goals (refine And.intro rfl (And.intro rfl ?_); repeat (first | with_reducible exact Ext.refl _ | with_reducible refine Ext.alloc ?_ _ | with_reducible refine Ext.setCell ?_ (by simp) _))

theorem bs_emp {l : List UInt8} (h : l ≠ []) : ¬ (bs l).toList = [] ∧ (bs l).toList.isEmpty = false := by
  rw [bs_toList]; exact ⟨h, by cases l with | nil => exact absurd rfl h | cons a r => rfl⟩
theorem num_any (n : Num) (hd : n.digits.length ≤ 60) (hdig : n.digits.all isDg = true) (h1 : -20000 ≤ n.scale) (h2 : n.scale ≤ 20000) (w : World) (ht : PowR w) :
    Calls Tryz.prog 84 #[.agg #[.bool n.neg, .string (bs n.digits), .int .i64 n.scale]] w fun e w' => Ends (numV n) e ∧ Ext w w' := by
  obtain ⟨neg, ds, sc⟩ := n
  simp only at *
  have hz : (bs ds).size = ds.length := rfl
  by_cases h0 : ds = []
  · subst h0
    have hv : numV ⟨neg, [], sc⟩ = some (0, 0) := by unfold numV; simp
    rw [hv]
    exact num_empty neg sc h1 h2 w
  obtain ⟨n1, n2⟩ := bs_emp h0
  by_cases hp1 : (ds.length : Int) + sc ≤ -46
  · have hv : numV ⟨neg, ds, sc⟩ = some (0, 0) := by unfold numV; simp only; rw [if_pos (Or.inr hp1)]
    rw [hv]
    exact num_low neg (bs ds) sc hd h1 h2 n1 n2 (by rw [hz]; exact hp1) w
  by_cases hp2 : 53 < (ds.length : Int) + sc
  · have hv : numV ⟨neg, ds, sc⟩ = none := by
      unfold numV; simp only; rw [if_neg (by intro h; rcases h with h | h; exact h0 h; exact hp1 h), if_pos hp2]
    rw [hv]
    exact num_high neg (bs ds) sc hd h1 h2 n1 n2 (by rw [hz]; exact hp1) (by rw [hz]; exact hp2) w
  · exact num_main neg (bs ds) sc _ (by rw [bs_list]) (by rw [hz]; exact List.length_pos_iff.2 h0) hd (by rw [bs_list]; exact hdig) h1 h2 n1 n2 (by rw [hz]; exact hp1) (by rw [hz]; exact hp2) w ht

/-! ### What is read is a number's digits -/
theorem drop_all {p : UInt8 → Bool} {q : UInt8 → Bool} : ∀ {l : List UInt8}, l.all q = true → (l.dropWhile p).all q = true
  | [], h => h
  | a :: r, h => by
    rw [List.dropWhile_cons]
    split
    · exact drop_all (by simp at h ⊢; exact h.2)
    · exact h
theorem tail_ok {neg : Bool} {dd : List UInt8} {sc : Int} {s : List UInt8} {n : Num} (h : tailV neg dd sc s = some n) (hd : dd.all isDg = true) (h1 : -60 ≤ sc) (h2 : sc ≤ 60) :
    n.digits.length ≤ dd.length ∧ n.digits.all isDg = true ∧ -20000 ≤ n.scale ∧ n.scale ≤ 20000 := by
  unfold tailV at h
  simp only at h
  have key : ∀ e : Int, -10000 ≤ e → e ≤ 10000 → (numOf neg dd (sc + e)).digits.length ≤ dd.length ∧ (numOf neg dd (sc + e)).digits.all isDg = true ∧ -20000 ≤ (numOf neg dd (sc + e)).scale ∧ (numOf neg dd (sc + e)).scale ≤ 20000 := by
    intro e he1 he2
    refine ⟨drop_le _ _, drop_all hd, ?_, ?_⟩ <;> (simp only [numOf]; omega)
  cases hc : (cut1 101 s).2 with
  | true =>
    rw [hc] at h
    simp only [if_true] at h
    cases he : expV (cut1 101 s).1 with
    | none => rw [he] at h; cases h
    | some e =>
      rw [he] at h
      cases h
      obtain ⟨q1, q2⟩ := expV_bd he
      exact key e q1 q2
  | false =>
    rw [hc] at h
    simp only [Bool.false_eq_true, if_false] at h
    split at h
    · cases h
      have := key 0 (by omega) (by omega)
      rw [Int.add_zero] at this
      exact this
    · cases h
theorem readV_ok {s : List UInt8} {n : Num} (h : readV s = some n) :
    n.digits.length ≤ 60 ∧ n.digits.all isDg = true ∧ -20000 ≤ n.scale ∧ n.scale ≤ 20000 := by
  unfold readV at h
  simp only at h
  by_cases hl : 60 < s.length
  · rw [if_pos hl] at h; cases h
  rw [if_neg hl] at h
  by_cases hd : digs (cut1 45 s).1 = []
  · rw [if_pos hd] at h; cases h
  rw [if_neg hd] at h
  have l1 := cut1_le 45 s
  have l2 := digs_len (cut1 45 s).1
  have l3 := cut1_le 46 (rest (cut1 45 s).1)
  have l4 := digs_len (cut1 46 (rest (cut1 45 s).1)).1
  have a1 := digs_all (cut1 45 s).1
  have a2 := digs_all (cut1 46 (rest (cut1 45 s).1)).1
  cases hp : (cut1 46 (rest (cut1 45 s).1)).2 with
  | false =>
    rw [hp] at h
    simp only [Bool.false_eq_true, if_false] at h
    have := tail_ok h a1 (by omega) (by omega)
    exact ⟨by omega, this.2⟩
  | true =>
    rw [hp] at h
    simp only [if_true] at h
    by_cases hf : digs (cut1 46 (rest (cut1 45 s).1)).1 = []
    · rw [if_pos hf] at h; cases h
    rw [if_neg hf] at h
    have := tail_ok h (by rw [List.all_append, a1, a2]; rfl) (by omega) (by omega)
    rw [List.length_append] at this
    exact ⟨by omega, this.2⟩

/-! ### Parse -/
set_option maxHeartbeats 1000000 in
theorem parse_bad (s : List UInt8) (ng : Bool) (ds : ByteArray) (sc : Int) (w : World)
    (R : ∀ w, Calls Tryz.prog 83 #[.string (bs s)] w fun e w' => e = .returned (.tuple #[.agg #[.bool ng, .string ds, .int .i64 sc], .bool false]) ∧ Ext w w') :
    Calls Tryz.prog 45 #[.string (bs s)] w fun e w' => e = .returned (.tuple #[.agg #[.int .i64 0, .int .i64 0], .int .i64 7]) ∧ Ext w w' := by
  have HR := Lib.hid R
  clear R
  go_enter Tryz.func45, Tryz.ntmps45
  go_wp2_with fail
  refine (HR.out _).mono ?_
  rintro e w1 ⟨rfl, hx⟩
  have X := Lib.hid (((Ext.refl w).alloc _).trans hx)
  have sz : w.heap.size + 1 ≤ w1.heap.size := by simpa using hx.size
  have c0 : ∀ ob, (w1.alloc ob).cell? ⟨w.heap.size, 0, none⟩ = some (.int .i64 0) := fun ob => ((hx.alloc ob).cell 0 (by simp)).trans (by simp [go_sem])
  have c1 : ∀ ob, (w1.alloc ob).cell? ⟨w.heap.size, 1, none⟩ = some (.int .i64 0) := fun ob => ((hx.alloc ob).cell 1 (by simp)).trans (by simp [go_sem])
  have f0 : ∀ ob j, (w1.alloc ob).frozen? ⟨w.heap.size, j, none⟩ = false := fun ob j => ((hx.alloc ob).froz j (by simp)).trans (by simp [go_sem])
  clear hx
  go_wp2
  refine bodyPost_ret (v := .tuple #[.agg #[.int .i64 0, .int .i64 0], .int .i64 7]) ?_ rfl ⟨rfl, ?_⟩
  · simp [results, Tryz.results45, go_sem, c0, c1]
  · exact ((X.out.alloc _).setCell (Nat.le_refl _) _).setCell (Nat.le_refl _) _

theorem ent_any {f : FuncId} {fn : Func} {c : Code} (hf : Tryz.prog.funcs[f]? = some fn) (hname : (fn.name == "runtime.NumGoroutine") = false) (hb : fn.body = some c) (args : Array Value) (w : World) :
    (callFunc f args).run Tryz.prog w = .ok (.enter f args) w := by
  have h1 : fn.name ≠ "runtime.NumGoroutine" := by simpa using hname
  simp [callFunc, hf, h1, hb]
theorem num_ent (args : Array Value) (w : World) : (callFunc 84 args).run Tryz.prog w = .ok (.enter 84 args) w :=
  ent_any Tryz.func84 (by kernel_rfl) rfl args w
set_option maxHeartbeats 1000000 in
theorem parse_good (s : List UInt8) (n : Num) (hd : n.digits.length ≤ 60) (hdig : n.digits.all isDg = true) (h1 : -20000 ≤ n.scale) (h2 : n.scale ≤ 20000) (w : World) (ht : PowR w)
    (R : ∀ w, Calls Tryz.prog 83 #[.string (bs s)] w fun e w' => e = .returned (.tuple #[.agg #[.bool n.neg, .string (bs n.digits), .int .i64 n.scale], .bool true]) ∧ Ext w w') :
    Calls Tryz.prog 45 #[.string (bs s)] w fun e w' => e = .returned (.tuple #[.agg #[.int .i64 (okV (numV n)).1, .int .i64 (okV (numV n)).2], .int .i64 (okE (numV n))]) ∧ Ext w w' := by
  have G : ∀ u, Ext w u → Calls Tryz.prog 70 #[.func (.func 84) #[.agg #[.bool n.neg, .string (bs n.digits), .int .i64 n.scale]] #[]] u fun e w' => e = .returned (.tuple #[.agg #[.int .i64 (okV (numV n)).1, .int .i64 (okV (numV n)).2], .int .i64 (okE (numV n))]) ∧ Ext u w' :=
    fun u hu => guarded1_any _ _ _ u num_ent (fun v hv => num_any n hd hdig h1 h2 v (ht.later (hu.trans hv)))
  obtain ⟨neg, digits, scale⟩ := n
  simp only at *
  generalize okV (numV ⟨neg, digits, scale⟩) = ov at *
  generalize okE (numV ⟨neg, digits, scale⟩) = oe at *
  generalize bs digits = ds at *
  have HR := Lib.hid R
  have HG := Lib.hid G
  clear R G hdig hd ht
  go_enter Tryz.func45, Tryz.ntmps45
  go_wp2_with fail
  refine (HR.out _).mono ?_
  rintro e w1 ⟨rfl, hx⟩
  have X := Lib.hid (((Ext.refl w).alloc _).trans hx)
  have sz : w.heap.size + 1 ≤ w1.heap.size := by simpa using hx.size
  have C0 : Hid (∀ ob, (w1.alloc ob).cell? ⟨w.heap.size, 0, none⟩ = some (.int .i64 0)) := Lib.hid fun ob => ((hx.alloc ob).cell 0 (by simp)).trans (by simp [go_sem])
  have C1 : Hid (∀ ob, (w1.alloc ob).cell? ⟨w.heap.size, 1, none⟩ = some (.int .i64 0)) := Lib.hid fun ob => ((hx.alloc ob).cell 1 (by simp)).trans (by simp [go_sem])
  have f0 : ∀ ob j, (w1.alloc ob).frozen? ⟨w.heap.size, j, none⟩ = false := fun ob j => ((hx.alloc ob).froz j (by simp)).trans (by simp [go_sem])
  clear hx
  go_wp2_with fail
  refine (HG.out _ (X.out.alloc _)).mono ?_
  rintro e w2 ⟨rfl, hx⟩
  have X2 := Lib.hid ((X.out.alloc _).trans hx)
  have c0 : w2.cell? ⟨w.heap.size, 0, none⟩ = some (.int .i64 0) := (hx.cell 0 (by simp; omega)).trans (C0.out _)
  have c1 : w2.cell? ⟨w.heap.size, 1, none⟩ = some (.int .i64 0) := (hx.cell 1 (by simp; omega)).trans (C1.out _)
  have g0 : ∀ j, w2.frozen? ⟨w.heap.size, j, none⟩ = false := fun j => (hx.froz j (by simp; omega)).trans (f0 _ j)
  clear hx C0 C1 f0
  go_wp2
  refine bodyPost_ret (v := .tuple #[.agg #[.int .i64 ov.1, .int .i64 ov.2], .int .i64 oe]) ?_ rfl ⟨rfl, ?_⟩
  · simp [results, Tryz.results45, go_sem, c0, c1]
  · exact (X2.out.setCell (Nat.le_refl _) _).setCell (Nat.le_refl _) _

/-- Parse of a string. -/
theorem parse_any (s : List UInt8) (hl : s.length ≤ 9223372036854775807) (w : World) (ht : PowR w) :
    Calls Tryz.prog 45 #[.string (bs s)] w fun e w' => e = .returned (.tuple #[.agg #[.int .i64 (rparseV s).1, .int .i64 (rparseV s).2], .int .i64 (rparseE s)]) ∧ Ext w w' := by
  by_cases hs : 60 < s.length
  · have hr : readV s = none := by unfold readV; rw [if_pos hs]
    unfold rparseV rparseE
    rw [hr]
    exact parse_bad s false ⟨#[]⟩ 0 w (fun w => read_long s hs hl w)
  have hs' : s.length ≤ 60 := by omega
  obtain ⟨g1, g2⟩ := readG_readV hs'
  have R := fun w => read_any s hs' w
  unfold rparseV rparseE
  cases hr : readV s with
  | none =>
    rw [hr] at g1
    rw [show (readG s).ok = false from g1.symm] at R
    exact parse_bad s _ _ _ w R
  | some n =>
    rw [hr] at g1
    rw [show (readG s).ok = true from g1.symm, g2 n hr] at R
    obtain ⟨h1, h2, h3, h4⟩ := readV_ok hr
    exact parse_good s n h1 h2 h3 h4 w ht R
end Go.Proofs.YtogfiekbikechaaGreatDoor

namespace Go.Proofs.YtogfiekbikechaaGreatDoor
open Go.RowKit

theorem eqReal (x0 x1 y0 y1 : Int) (w : World) :
    (Op.equalIn 10000 23 (.agg #[.int .i64 x0, .int .i64 x1]) (.agg #[.int .i64 y0, .int .i64 y1])).run Tryz.prog w =
      .ok (x0 == y0 && x1 == y1) w := by
  have u3 := Tryz.underlying3
  have a3 := Tryz.isAgg3
  have z3 := Tryz.sizeOf3
  rw [show (10000 : Nat) = 9999 + 1 from rfl, Op.equalIn]
  simp only [Sem.run_bind, run_underlying Tryz.underlying23, Result.andThen_ok]
  go_simp
  by_cases h0 : x0 = y0
  · by_cases h1 : x1 = y1 <;> simp [h0, h1]
  · simp [h0]

theorem valid_a (m x : Int) (h : m ≤ -16777216) (w : World) :
    Calls Tryz.prog 15 #[.agg #[.int .i64 m, .int .i64 x]] w fun e w' => e = .returned (.bool false) ∧ Ext w w' := by
  go_enter Tryz.func15, Tryz.ntmps15
  go_wp2
  refine bodyPost_ret (v := .bool false) ?_ rfl ⟨rfl, ?_⟩
  · simp [results, Tryz.results15, go_sem]
  · repeat (first | with_reducible exact Ext.refl _ | with_reducible refine Ext.alloc ?_ _ | with_reducible refine Ext.setCell ?_ (by simp) _)
theorem valid_b (m x : Int) (n1 : ¬ m ≤ -16777216) (h : m ≥ 16777216) (w : World) :
    Calls Tryz.prog 15 #[.agg #[.int .i64 m, .int .i64 x]] w fun e w' => e = .returned (.bool false) ∧ Ext w w' := by
  go_enter Tryz.func15, Tryz.ntmps15
  go_wp2
  refine bodyPost_ret (v := .bool false) ?_ rfl ⟨rfl, ?_⟩
  · simp [results, Tryz.results15, go_sem]
  · repeat (first | with_reducible exact Ext.refl _ | with_reducible refine Ext.alloc ?_ _ | with_reducible refine Ext.setCell ?_ (by simp) _)
theorem valid_c (m x : Int) (n1 : ¬ m ≤ -16777216) (n2 : ¬ m ≥ 16777216) (h : x < -150) (w : World) :
    Calls Tryz.prog 15 #[.agg #[.int .i64 m, .int .i64 x]] w fun e w' => e = .returned (.bool false) ∧ Ext w w' := by
  go_enter Tryz.func15, Tryz.ntmps15
  go_wp2
  refine bodyPost_ret (v := .bool false) ?_ rfl ⟨rfl, ?_⟩
  · simp [results, Tryz.results15, go_sem]
  · repeat (first | with_reducible exact Ext.refl _ | with_reducible refine Ext.alloc ?_ _ | with_reducible refine Ext.setCell ?_ (by simp) _)
theorem valid_d (m x : Int) (n1 : ¬ m ≤ -16777216) (n2 : ¬ m ≥ 16777216) (n3 : ¬ x < -150) (h : x > 150) (w : World) :
    Calls Tryz.prog 15 #[.agg #[.int .i64 m, .int .i64 x]] w fun e w' => e = .returned (.bool false) ∧ Ext w w' := by
  go_enter Tryz.func15, Tryz.ntmps15
  go_wp2
  refine bodyPost_ret (v := .bool false) ?_ rfl ⟨rfl, ?_⟩
  · simp [results, Tryz.results15, go_sem]
  · repeat (first | with_reducible exact Ext.refl _ | with_reducible refine Ext.alloc ?_ _ | with_reducible refine Ext.setCell ?_ (by simp) _)
theorem valid_z (x : Int) (n3 : ¬ x < -150) (n4 : ¬ x > 150) (w : World) :
    Calls Tryz.prog 15 #[.agg #[.int .i64 0, .int .i64 x]] w fun e w' => e = .returned (.bool (x == 0)) ∧ Ext w w' := by
  have eqR := eqReal
  go_enter Tryz.func15, Tryz.ntmps15
  go_wp2
  refine bodyPost_ret (v := .bool (x == 0)) ?_ rfl ⟨rfl, ?_⟩
  · simp [results, Tryz.results15, go_sem]
  · repeat (first | with_reducible exact Ext.refl _ | with_reducible refine Ext.alloc ?_ _ | with_reducible refine Ext.setCell ?_ (by simp) _)
theorem valid_e (m x : Int) (n1 : ¬ m ≤ -16777216) (n2 : ¬ m ≥ 16777216) (n3 : ¬ x < -150) (n4 : ¬ x > 150) (n5 : (m == 0) = false) (n6 : (x == -150) = true) (w : World) :
    Calls Tryz.prog 15 #[.agg #[.int .i64 m, .int .i64 x]] w fun e w' => e = .returned (.bool true) ∧ Ext w w' := by
  go_enter Tryz.func15, Tryz.ntmps15
  go_wp2
  refine bodyPost_ret (v := .bool true) ?_ rfl ⟨rfl, ?_⟩
  · simp [results, Tryz.results15, go_sem]
  · repeat (first | with_reducible exact Ext.refl _ | with_reducible refine Ext.alloc ?_ _ | with_reducible refine Ext.setCell ?_ (by simp) _)
theorem valid_f (m x : Int) (n1 : ¬ m ≤ -16777216) (n2 : ¬ m ≥ 16777216) (n3 : ¬ x < -150) (n4 : ¬ x > 150) (n5 : (m == 0) = false) (n6 : (x == -150) = false) (h : m ≤ -8388608) (w : World) :
    Calls Tryz.prog 15 #[.agg #[.int .i64 m, .int .i64 x]] w fun e w' => e = .returned (.bool true) ∧ Ext w w' := by
  go_enter Tryz.func15, Tryz.ntmps15
  go_wp2
  refine bodyPost_ret (v := .bool true) ?_ rfl ⟨rfl, ?_⟩
  · simp [results, Tryz.results15, go_sem]
  · repeat (first | with_reducible exact Ext.refl _ | with_reducible refine Ext.alloc ?_ _ | with_reducible refine Ext.setCell ?_ (by simp) _)
theorem valid_g (m x : Int) (n1 : ¬ m ≤ -16777216) (n2 : ¬ m ≥ 16777216) (n3 : ¬ x < -150) (n4 : ¬ x > 150) (n5 : (m == 0) = false) (n6 : (x == -150) = false) (n7 : ¬ m ≤ -8388608) (w : World) :
    Calls Tryz.prog 15 #[.agg #[.int .i64 m, .int .i64 x]] w fun e w' => e = .returned (.bool (decide (m ≥ 8388608))) ∧ Ext w w' := by
  go_enter Tryz.func15, Tryz.ntmps15
  go_wp2
  refine bodyPost_ret (v := .bool (decide (m ≥ 8388608))) ?_ rfl ⟨rfl, ?_⟩
  · simp [results, Tryz.results15, go_sem]
  · repeat (first | with_reducible exact Ext.refl _ | with_reducible refine Ext.alloc ?_ _ | with_reducible refine Ext.setCell ?_ (by simp) _)
theorem valid_any (m x : Int) (w : World) :
    Calls Tryz.prog 15 #[.agg #[.int .i64 m, .int .i64 x]] w fun e w' => e = .returned (.bool (validV m x)) ∧ Ext w w' := by
  unfold validV
  by_cases h1 : m ≤ -16777216
  · rw [if_pos h1]; exact valid_a m x h1 w
  rw [if_neg h1]
  by_cases h2 : 16777216 ≤ m
  · rw [if_pos h2]; exact valid_b m x h1 h2 w
  rw [if_neg h2]
  by_cases h3 : x < -150
  · rw [if_pos h3]; exact valid_c m x h1 h2 h3 w
  rw [if_neg h3]
  by_cases h4 : 150 < x
  · rw [if_pos h4]; exact valid_d m x h1 h2 h3 h4 w
  rw [if_neg h4]
  by_cases h5 : m = 0
  · subst h5; rw [if_pos rfl]; exact valid_z x h3 h4 w
  rw [if_neg h5]
  have n5 : (m == 0) = false := by simpa using h5
  by_cases h6 : x = -150
  · rw [if_pos h6]; exact valid_e m x h1 h2 h3 h4 n5 (by simpa using h6) w
  rw [if_neg h6]
  have n6 : (x == -150) = false := by simpa using h6
  by_cases h7 : m ≤ -8388608
  · rw [if_pos h7]; exact valid_f m x h1 h2 h3 h4 n5 n6 h7 w
  rw [if_neg h7]
  exact valid_g m x h1 h2 h3 h4 n5 n6 h7 w
theorem valid_bd {m x : Int} (h : validV m x = true) : -16777216 < m ∧ m < 16777216 ∧ -150 ≤ x ∧ x ≤ 150 ∧ (m = 0 → x = 0) := by
  unfold validV at h
  repeat' split at h
  all_goals (first | (cases h; done) | (refine ⟨by omega, by omega, by omega, by omega, fun h0 => ?_⟩; first | omega | (simp at h; omega)))

theorem both_f (m x n y : Int) (h : validV m x = false) (w : World) :
    Calls Tryz.prog 60 #[.agg #[.int .i64 m, .int .i64 x], .agg #[.int .i64 n, .int .i64 y]] w fun e w' => e = .returned (.bool false) ∧ Ext w w' := by
  have V1 := Lib.hid (valid_any m x)
  have V2 := Lib.hid (valid_any n y)
  generalize validV m x = vx at *
  generalize validV n y = vy at *
  subst h
  go_enter Tryz.func60, Tryz.ntmps60
  go_wp2_with fail
  refine (V1.out _).mono ?_
  rintro e w1 ⟨rfl, hx1⟩
  go_wp2
  refine bodyPost_ret (v := .bool false) ?_ rfl ⟨rfl, ?_⟩
  · simp [results, Tryz.results60, go_sem]
  · exact (((Ext.refl w).alloc _).alloc _).trans hx1
theorem both_t (m x n y : Int) (h : validV m x = true) (w : World) :
    Calls Tryz.prog 60 #[.agg #[.int .i64 m, .int .i64 x], .agg #[.int .i64 n, .int .i64 y]] w fun e w' => e = .returned (.bool (validV n y)) ∧ Ext w w' := by
  have V1 := Lib.hid (valid_any m x)
  have V2 := Lib.hid (valid_any n y)
  generalize validV m x = vx at *
  generalize validV n y = vy at *
  subst h
  go_enter Tryz.func60, Tryz.ntmps60
  go_wp2_with fail
  refine (V1.out _).mono ?_
  rintro e w1 ⟨rfl, hx1⟩
  have b0 : w1.cell? ⟨w.heap.size + 1, 0, none⟩ = some (.int .i64 n) := (hx1.cell 0 (by simp)).trans (by simp [go_sem])
  have b1 : w1.cell? ⟨w.heap.size + 1, 1, none⟩ = some (.int .i64 y) := (hx1.cell 1 (by simp)).trans (by simp [go_sem])
  go_wp2_with fail
  refine (V2.out _).mono ?_
  rintro e w2 ⟨rfl, hx2⟩
  go_wp2
  refine bodyPost_ret (v := .bool vy) ?_ rfl ⟨rfl, ?_⟩
  · simp [results, Tryz.results60, go_sem]
  · exact (((Ext.refl w).alloc _).alloc _).trans hx1 |>.trans hx2
theorem both_any (m x n y : Int) (w : World) :
    Calls Tryz.prog 60 #[.agg #[.int .i64 m, .int .i64 x], .agg #[.int .i64 n, .int .i64 y]] w fun e w' => e = .returned (.bool (validV m x && validV n y)) ∧ Ext w w' := by
  cases h : validV m x with
  | false => exact both_f m x n y h w
  | true => exact both_t m x n y h w
theorem opposite_any (m x : Int) (h1 : -9223372036854775808 < m) (h2 : m < 9223372036854775808) (w : World) :
    Calls Tryz.prog 58 #[.agg #[.int .i64 m, .int .i64 x]] w fun e w' => e = .returned (.agg #[.int .i64 (-m), .int .i64 x]) ∧ Ext w w' := by
  go_enter Tryz.func58, Tryz.ntmps58
  go_wp2
  refine bodyPost_ret (v := .agg #[.int .i64 (-m), .int .i64 x]) ?_ rfl ⟨rfl, ?_⟩
  · simp [results, Tryz.results58, go_sem]
  · repeat (first | with_reducible exact Ext.refl _ | with_reducible refine Ext.alloc ?_ _ | with_reducible refine Ext.setCell ?_ (by simp) _)
theorem exactly_pos (m x : Int) (h : ¬ m < 0) (_h2 : m < 9223372036854775808) (hu : IntKind.u64.wrap m = m) (w : World) :
    Calls Tryz.prog 52 #[.int .i64 m, .int .i64 x] w fun e w' => e = .returned (.agg #[.bool false, .int .u64 m, .int .i64 x, .bool false]) ∧ Ext w w' := by
  go_enter Tryz.func52, Tryz.ntmps52
  go_wp2
  refine bodyPost_ret (v := .agg #[.bool false, .int .u64 m, .int .i64 x, .bool false]) ?_ rfl ⟨rfl, ?_⟩
  · simp [results, Tryz.results52, go_sem]
  · repeat (first | with_reducible exact Ext.refl _ | with_reducible refine Ext.alloc ?_ _ | with_reducible refine Ext.setCell ?_ (by simp) _)
theorem exactly_neg (m x : Int) (h : m < 0) (_h1 : -9223372036854775808 ≤ m) (hu : IntKind.u64.wrap (wrap64 (-m)) = -m) (w : World) :
    Calls Tryz.prog 52 #[.int .i64 m, .int .i64 x] w fun e w' => e = .returned (.agg #[.bool true, .int .u64 (-m), .int .i64 x, .bool false]) ∧ Ext w w' := by
  go_enter Tryz.func52, Tryz.ntmps52
  go_wp2
  refine bodyPost_ret (v := .agg #[.bool true, .int .u64 (-m), .int .i64 x, .bool false]) ?_ rfl ⟨rfl, ?_⟩
  · simp [results, Tryz.results52, go_sem]
  · repeat (first | with_reducible exact Ext.refl _ | with_reducible refine Ext.alloc ?_ _ | with_reducible refine Ext.setCell ?_ (by simp) _)
theorem exactly_any (m x : Int) (h1 : -9223372036854775808 ≤ m) (h2 : m < 9223372036854775808) (w : World) :
    Calls Tryz.prog 52 #[.int .i64 m, .int .i64 x] w fun e w' => e = .returned (.agg #[.bool (decide (m < 0)), .int .u64 m.natAbs, .int .i64 x, .bool false]) ∧ Ext w w' := by
  by_cases h : m < 0
  · have hn : (m.natAbs : Int) = -m := by omega
    rw [hn, decide_eq_true h]
    refine exactly_neg m x h h1 ?_ w
    by_cases hm : m = -9223372036854775808
    · subst hm; decide +kernel
    · have e1 : wrap64 (-m) = -m := by unfold wrap64; omega
      rw [e1]; exact IntWalk.u64_in _ ⟨by omega, by omega⟩
  · have hn : (m.natAbs : Int) = m := by omega
    rw [hn, decide_eq_false h]
    exact exactly_pos m x h h2 (IntWalk.u64_in _ ⟨by omega, by omega⟩) w

end Go.Proofs.YtogfiekbikechaaGreatDoor
