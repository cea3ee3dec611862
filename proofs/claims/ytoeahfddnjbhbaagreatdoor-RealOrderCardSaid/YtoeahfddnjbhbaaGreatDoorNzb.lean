/- Layer 2: numeric strings, as the program reads and rounds them. -/
import Derived.Test.YtoeahfddnjbhbaaGreatDoorNz
import Derived.Test.YtoeahfddnjbhbaaGreatDoorNza
import Derived.Test.YtoeahfddnjbhbaaGreatDoorNv
namespace Go.Proofs.YtoeahfddnjbhbaaGreatDoor
open Go.RowKit

theorem expV_bd {s : List UInt8} {e : Int} (h : expV s = some e) : -10000 ≤ e ∧ e ≤ 10000 := by
  have hE : expV s = if digs (if (cut1 45 s).2 then (cut1 45 s).1 else (cut1 43 s).1) = [] ∨ rest (if (cut1 45 s).2 then (cut1 45 s).1 else (cut1 43 s).1) ≠ [] then none
      else some (if (cut1 45 s).2 then -(expF (if (cut1 45 s).2 then (cut1 45 s).1 else (cut1 43 s).1)) else expF (if (cut1 45 s).2 then (cut1 45 s).1 else (cut1 43 s).1)) := rfl
  rw [hE] at h
  generalize (if (cut1 45 s).2 then (cut1 45 s).1 else (cut1 43 s).1) = d at h
  by_cases hc : digs d = [] ∨ rest d ≠ []
  · rw [if_pos hc] at h; cases h
  · rw [if_neg hc] at h
    have hr : rest d = [] := by
      by_cases hr : rest d = []
      · exact hr
      · exact absurd (.inr hr) hc
    have ha := digs_all d
    rw [whole_digs hr] at ha
    have := expF_bd ha
    split at h <;> cases h <;> omega

set_option maxHeartbeats 1000000 in
theorem read_any (s : List UInt8) (hl : s.length ≤ 60) (w : World) :
    Calls Tryz.prog 95 #[.string (bs s)] w fun e w' => e = .returned (.tuple #[.agg #[.bool (readG s).n.neg, .string (bs (readG s).n.digits), .int .i64 (readG s).n.scale], .bool (readG s).ok]) ∧ Ext w w' := by
  have P1 := cutP s 45
  have l1 := cut1_le 45 s
  unfold readG
  simp only
  generalize cut1 45 s = c at *
  obtain ⟨s1, neg⟩ := c
  simp only at P1 l1 ⊢
  have C1 := cutDigits_any s1 (by omega)
  have l2 := digs_len s1
  generalize digs s1 = d at *
  generalize rest s1 = s2 at *
  have P2 := cutP s2 46
  have l3 := cut1_le 46 s2
  generalize cut1 46 s2 = p at *
  obtain ⟨af, fl⟩ := p
  simp only at P2 l3 ⊢
  cases fl with
  | false =>
    simp only [Bool.false_eq_true, if_false]
    unfold tailG
    have P3 := cutP s2 101
    have l5 := cut1_le 101 s2
    have TZ := trimZ d
    generalize cut1 101 s2 = q at *
    obtain ⟨ag, g⟩ := q
    simp only at P3 l5 ⊢
    cases g with
    | false =>
      simp only [Bool.false_eq_true, if_false]
      by_cases hs3 : s2 = []
      · skip
        by_cases hd : d = []
        · have hok : ((decide (d ≠ [])) && decide (s2 = [])) = false := by simp [hd, hs3]
          rw [hok]
          exact rd_e_no_end s s1 d s2 af ag _ neg 0 hl hd hs3 P1 C1 P2 P3 TZ w
        · have hok : ((decide (d ≠ [])) && decide (s2 = [])) = true := by simp [hd, hs3]
          rw [hok]
          exact rd_s_no_end s s1 d s2 af ag _ neg 0 hl hd hs3 P1 C1 P2 P3 TZ w
      · skip
        by_cases hd : d = []
        · have hok : ((decide (d ≠ [])) && decide (s2 = [])) = false := by simp [hd, hs3]
          rw [hok]
          exact rd_e_no_more s s1 d s2 af ag _ neg 0 hl hd hs3 P1 C1 P2 P3 TZ w
        · have hok : ((decide (d ≠ [])) && decide (s2 = [])) = false := by simp [hd, hs3]
          rw [hok]
          exact rd_s_no_more s s1 d s2 af ag _ neg 0 hl hd hs3 P1 C1 P2 P3 TZ w
    | true =>
      simp only [if_true]
      have RE := readExponent_any ag (by omega)
      cases he : expV ag with
      | none =>
        rw [he] at RE
        simp only [Option.getD_none, Option.isSome_none] at RE ⊢
        rw [Int.add_zero]
        by_cases hd : d = []
        · have hok : ((decide (d ≠ [])) && false) = false := by simp [hd]
          rw [hok]
          exact rd_e_no_bad s s1 d s2 af ag _ neg 0 hl hd (by omega) (by omega) P1 C1 P2 P3 RE TZ w
        · have hok : ((decide (d ≠ [])) && false) = false := by simp [hd]
          rw [hok]
          exact rd_s_no_bad s s1 d s2 af ag _ neg 0 hl hd (by omega) (by omega) P1 C1 P2 P3 RE TZ w
      | some e =>
        have hb := expV_bd he
        rw [he] at RE
        simp only [Option.getD_some, Option.isSome_some] at RE ⊢
        rw [Int.zero_add]
        by_cases hd : d = []
        · have hok : ((decide (d ≠ [])) && true) = false := by simp [hd]
          rw [hok]
          exact rd_e_no_exp s s1 d s2 af ag _ neg e hl hd hb.1 hb.2 P1 C1 P2 P3 RE TZ w
        · have hok : ((decide (d ≠ [])) && true) = true := by simp [hd]
          rw [hok]
          exact rd_s_no_exp s s1 d s2 af ag _ neg e hl hd hb.1 hb.2 P1 C1 P2 P3 RE TZ w
  | true =>
    simp only [if_true]
    have C2 := cutDigits_any af (by omega)
    have l4 := digs_len af
    generalize digs af = fr at *
    generalize rest af = r at *
    unfold tailG
    have P3 := cutP r 101
    have l5 := cut1_le 101 r
    have TZ := trimZ (d ++ fr)
    generalize cut1 101 r = q at *
    obtain ⟨ag, g⟩ := q
    simp only at P3 l5 ⊢
    cases g with
    | false =>
      simp only [Bool.false_eq_true, if_false]
      by_cases hs3 : r = []
      · skip
        by_cases hd : d = []
        · by_cases hf : fr = []
          · have hok : ((decide (d ≠ []) && decide (fr ≠ [])) && decide (r = [])) = false := by simp [hd, hf, hs3]
            rw [hok]
            exact rd_e_none_end s s1 d s2 af fr r ag _ neg 0 hl hd hf (by omega) (by omega) hs3 P1 C1 P2 C2 P3 TZ w
          · have hok : ((decide (d ≠ []) && decide (fr ≠ [])) && decide (r = [])) = false := by simp [hd, hf, hs3]
            rw [hok]
            exact rd_e_some_end s s1 d s2 af fr r ag _ neg 0 hl hd hf (by omega) (by omega) hs3 P1 C1 P2 C2 P3 TZ w
        · by_cases hf : fr = []
          · have hok : ((decide (d ≠ []) && decide (fr ≠ [])) && decide (r = [])) = false := by simp [hd, hf, hs3]
            rw [hok]
            exact rd_s_none_end s s1 d s2 af fr r ag _ neg 0 hl hd hf (by omega) (by omega) hs3 P1 C1 P2 C2 P3 TZ w
          · have hok : ((decide (d ≠ []) && decide (fr ≠ [])) && decide (r = [])) = true := by simp [hd, hf, hs3]
            rw [hok]
            exact rd_s_some_end s s1 d s2 af fr r ag _ neg 0 hl hd hf (by omega) (by omega) hs3 P1 C1 P2 C2 P3 TZ w
      · skip
        by_cases hd : d = []
        · by_cases hf : fr = []
          · have hok : ((decide (d ≠ []) && decide (fr ≠ [])) && decide (r = [])) = false := by simp [hd, hf, hs3]
            rw [hok]
            exact rd_e_none_more s s1 d s2 af fr r ag _ neg 0 hl hd hf (by omega) (by omega) hs3 P1 C1 P2 C2 P3 TZ w
          · have hok : ((decide (d ≠ []) && decide (fr ≠ [])) && decide (r = [])) = false := by simp [hd, hf, hs3]
            rw [hok]
            exact rd_e_some_more s s1 d s2 af fr r ag _ neg 0 hl hd hf (by omega) (by omega) hs3 P1 C1 P2 C2 P3 TZ w
        · by_cases hf : fr = []
          · have hok : ((decide (d ≠ []) && decide (fr ≠ [])) && decide (r = [])) = false := by simp [hd, hf, hs3]
            rw [hok]
            exact rd_s_none_more s s1 d s2 af fr r ag _ neg 0 hl hd hf (by omega) (by omega) hs3 P1 C1 P2 C2 P3 TZ w
          · have hok : ((decide (d ≠ []) && decide (fr ≠ [])) && decide (r = [])) = false := by simp [hd, hf, hs3]
            rw [hok]
            exact rd_s_some_more s s1 d s2 af fr r ag _ neg 0 hl hd hf (by omega) (by omega) hs3 P1 C1 P2 C2 P3 TZ w
    | true =>
      simp only [if_true]
      have RE := readExponent_any ag (by omega)
      cases he : expV ag with
      | none =>
        rw [he] at RE
        simp only [Option.getD_none, Option.isSome_none] at RE ⊢
        by_cases hd : d = []
        · by_cases hf : fr = []
          · have hok : ((decide (d ≠ []) && decide (fr ≠ [])) && false) = false := by simp [hd, hf]
            rw [hok]
            exact rd_e_none_bad s s1 d s2 af fr r ag _ neg 0 hl hd hf (by omega) (by omega) (by omega) (by omega) P1 C1 P2 C2 P3 RE TZ w
          · have hok : ((decide (d ≠ []) && decide (fr ≠ [])) && false) = false := by simp [hd, hf]
            rw [hok]
            exact rd_e_some_bad s s1 d s2 af fr r ag _ neg 0 hl hd hf (by omega) (by omega) (by omega) (by omega) P1 C1 P2 C2 P3 RE TZ w
        · by_cases hf : fr = []
          · have hok : ((decide (d ≠ []) && decide (fr ≠ [])) && false) = false := by simp [hd, hf]
            rw [hok]
            exact rd_s_none_bad s s1 d s2 af fr r ag _ neg 0 hl hd hf (by omega) (by omega) (by omega) (by omega) P1 C1 P2 C2 P3 RE TZ w
          · have hok : ((decide (d ≠ []) && decide (fr ≠ [])) && false) = false := by simp [hd, hf]
            rw [hok]
            exact rd_s_some_bad s s1 d s2 af fr r ag _ neg 0 hl hd hf (by omega) (by omega) (by omega) (by omega) P1 C1 P2 C2 P3 RE TZ w
      | some e =>
        have hb := expV_bd he
        rw [he] at RE
        simp only [Option.getD_some, Option.isSome_some] at RE ⊢
        by_cases hd : d = []
        · by_cases hf : fr = []
          · have hok : ((decide (d ≠ []) && decide (fr ≠ [])) && true) = false := by simp [hd, hf]
            rw [hok]
            exact rd_e_none_exp s s1 d s2 af fr r ag _ neg e hl hd hf (by omega) (by omega) hb.1 hb.2 P1 C1 P2 C2 P3 RE TZ w
          · have hok : ((decide (d ≠ []) && decide (fr ≠ [])) && true) = false := by simp [hd, hf]
            rw [hok]
            exact rd_e_some_exp s s1 d s2 af fr r ag _ neg e hl hd hf (by omega) (by omega) hb.1 hb.2 P1 C1 P2 C2 P3 RE TZ w
        · by_cases hf : fr = []
          · have hok : ((decide (d ≠ []) && decide (fr ≠ [])) && true) = false := by simp [hd, hf]
            rw [hok]
            exact rd_s_none_exp s s1 d s2 af fr r ag _ neg e hl hd hf (by omega) (by omega) hb.1 hb.2 P1 C1 P2 C2 P3 RE TZ w
          · have hok : ((decide (d ≠ []) && decide (fr ≠ [])) && true) = true := by simp [hd, hf]
            rw [hok]
            exact rd_s_some_exp s s1 d s2 af fr r ag _ neg e hl hd hf (by omega) (by omega) hb.1 hb.2 P1 C1 P2 C2 P3 RE TZ w

theorem read_long (s : List UInt8) (hl : 60 < s.length) (hl2 : s.length ≤ 9223372036854775807) (w : World) :
    Calls Tryz.prog 95 #[.string (bs s)] w fun e w' => e = .returned (.tuple #[.agg #[.bool false, .string ⟨#[]⟩, .int .i64 0], .bool false]) ∧ Ext w w' := by
  have zs : (bs s).size = s.length := rfl
  have h2 : (60 : Int) < s.length := by omega
  go_enter Tryz.func95, Tryz.ntmps95
  go_wp2
  refine bodyPost_ret (v := .tuple #[.agg #[.bool false, .string ⟨#[]⟩, .int .i64 0], .bool false]) ?_ rfl ⟨rfl, ?_⟩
  · simp [results, Tryz.results95, go_sem]
  · repeat (first | with_reducible exact Ext.refl _ | with_reducible refine Ext.alloc ?_ _ | with_reducible refine Ext.setCell ?_ (by simp) _)
end Go.Proofs.YtoeahfddnjbhbaaGreatDoor
