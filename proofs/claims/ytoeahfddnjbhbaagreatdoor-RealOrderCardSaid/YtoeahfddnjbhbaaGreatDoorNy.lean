/- Layer 2: the exponent of a numeric string, as the program reads it. -/
import Derived.Test.YtoeahfddnjbhbaaGreatDoorNx
import Derived.Lib.ConvBytes
import Derived.Outline
namespace Go.Proofs.YtoeahfddnjbhbaaGreatDoor
open Go.RowKit

theorem list_some {l : List UInt8} (h : l ≠ []) : ¬ (bs l).toList = [] ∧ (bs l).toList.isEmpty = false := by
  rw [bs_toList]; cases l
  · exact absurd rfl h
  · exact ⟨by simp, rfl⟩
theorem list_none {l : List UInt8} (h : l = []) : (bs l).toList = [] ∧ (bs l).toList.isEmpty = true := by
  subst h; exact ⟨by rw [bs_toList], by rw [bs_toList]; rfl⟩
theorem expS_if (n : Int) (c : UInt8) : expS n c = if 10000 < 10 * n + ((c.toNat : Int) - 48) then 10000 else 10 * n + ((c.toNat : Int) - 48) := by
  unfold expS; split <;> omega
theorem getD_mem' {l : List UInt8} {k : Nat} (h : k < l.length) : l.getD k 0 ∈ l := by
  rw [List.getD_eq_getElem?_getD, List.getElem?_eq_getElem h]; exact List.getElem_mem _
theorem expF_take (l : List UInt8) (k : Nat) (h : k < l.length) : expF (l.take (k + 1)) = expS (expF (l.take k)) (l.getD k 0) := by
  rw [List.take_succ_eq_append_getElem h, expF_snoc]
  congr 1
  rw [List.getD_eq_getElem?_getD, List.getElem?_eq_getElem h]; rfl
theorem bytes_ext (w : World) (e : TypeId) (s : ByteArray) : Ext w (Lib.bytesWorld w e s) := ⟨⟨rfl, rfl, rfl, by rw [Lib.bytesWorld_size]; omega, fun k hk => Lib.bytesWorld_at_old _ _ _ k hk⟩⟩
theorem all_take {l : List UInt8} (k : Nat) (h : l.all isDg = true) : (l.take k).all isDg = true := List.all_eq_true.2 fun x hx => List.all_eq_true.1 h x (List.mem_of_mem_take hx)

set_option maxHeartbeats 1000000 in
theorem re_neg_none (s d : List UInt8) (hl : d.length ≤ 1000) (hc : (cut1 45 s).2 = true) (hs : (cut1 45 s).1 = d) (hd : digs d = []) (w : World) :
    Calls Tryz.prog 117 #[.string (bs s)] w fun e w' => e = .returned (.tuple #[.int .i64 0, .bool false]) ∧ Ext w w' := by
  obtain ⟨m1, m2⟩ := list_none hd
  have HC := Lib.hid hc
  have HS := Lib.hid hs
  clear hc hs hd
  have p1 : ∀ w, Calls Tryz.prog 115 #[.string (bs s), .string ⟨#[45]⟩] w fun e w' => e = .returned (.tuple #[.string (bs (cut1 45 s).1), .bool true]) ∧ w = w' := fun w => by have := cutP s 45 w; rw [HC.out] at this; exact this
  rw [HS.out] at p1
  have P1 := Lib.hid p1
  clear p1
  go_enter Tryz.func117, Tryz.ntmps117
  go_wp2_with fail
  refine (P1.out _).mono ?_
  rintro e w' ⟨rfl, rfl⟩
  go_wp2_with fail
  refine (cutDigits_any d hl _).mono ?_
  rintro e w1 ⟨rfl, hx⟩
  go_wp2
  go_ret2
  exact ⟨rfl, hx⟩

set_option maxHeartbeats 1000000 in
theorem re_neg_more (s d : List UInt8) (hl : d.length ≤ 1000) (hc : (cut1 45 s).2 = true) (hs : (cut1 45 s).1 = d) (hd : digs d ≠ []) (hr : rest d ≠ []) (w : World) :
    Calls Tryz.prog 117 #[.string (bs s)] w fun e w' => e = .returned (.tuple #[.int .i64 0, .bool false]) ∧ Ext w w' := by
  obtain ⟨m1, m2⟩ := list_some hd
  obtain ⟨m3, m4⟩ := list_some hr
  have HC := Lib.hid hc
  have HS := Lib.hid hs
  clear hc hs hd hr
  have p1 : ∀ w, Calls Tryz.prog 115 #[.string (bs s), .string ⟨#[45]⟩] w fun e w' => e = .returned (.tuple #[.string (bs (cut1 45 s).1), .bool true]) ∧ w = w' := fun w => by have := cutP s 45 w; rw [HC.out] at this; exact this
  rw [HS.out] at p1
  have P1 := Lib.hid p1
  clear p1
  go_enter Tryz.func117, Tryz.ntmps117
  go_wp2_with fail
  refine (P1.out _).mono ?_
  rintro e w' ⟨rfl, rfl⟩
  go_wp2_with fail
  refine (cutDigits_any d hl _).mono ?_
  rintro e w1 ⟨rfl, hx⟩
  go_wp2
  go_ret2
  exact ⟨rfl, hx⟩

set_option maxHeartbeats 1000000 in
theorem re_neg_good (s d : List UInt8) (hl : d.length ≤ 1000) (hc : (cut1 45 s).2 = true) (hs : (cut1 45 s).1 = d) (hd : digs d ≠ []) (hr : rest d = []) (w : World) :
    Calls Tryz.prog 117 #[.string (bs s)] w fun e w' => e = .returned (.tuple #[.int .i64 (-(expF d)), .bool true]) ∧ Ext w w' := by
  obtain ⟨m1, m2⟩ := list_some hd
  obtain ⟨m3, m4⟩ := list_none hr
  have hall := digs_all d
  rw [whole_digs hr] at hall
  have HA := Lib.hid hall
  clear hall
  have kc := fun (w : World) => Lib.run_convert_string_bytes (P := Tryz.prog) w 9 125 5 (bs d) Tryz.underlying9 Tryz.underlying125 Tryz.underlying5
  have zd : (bs d).size = d.length := rfl
  have HC := Lib.hid hc
  have HS := Lib.hid hs
  clear hc hs hd hr
  have p1 : ∀ w, Calls Tryz.prog 115 #[.string (bs s), .string ⟨#[45]⟩] w fun e w' => e = .returned (.tuple #[.string (bs (cut1 45 s).1), .bool true]) ∧ w = w' := fun w => by have := cutP s 45 w; rw [HC.out] at this; exact this
  rw [HS.out] at p1
  have P1 := Lib.hid p1
  clear p1
  go_enter Tryz.func117, Tryz.ntmps117
  go_wp2_with fail
  refine (P1.out _).mono ?_
  rintro e w' ⟨rfl, rfl⟩
  go_wp2_with fail
  refine (cutDigits_any d hl _).mono ?_
  rintro e w1 ⟨rfl, hx⟩
  go_wp2
  have X := Lib.hid (hx.trans (bytes_ext w1 5 (bs d)))
  have BC := Lib.hid (fun j (hj : j < d.length) => Lib.bytesWorld_cell w1 5 (bs d) j hj)
  simp only [bs_list] at BC
  generalize Lib.bytesWorld w1 5 (bs d) = w2 at *
  clear hx m1 m2 m3 m4 kc
  go_loop [2, 33] (fun n i => ∃ k : Nat, k ≤ d.length ∧ i = .int .i64 k ∧ n = .int .i64 (expF (d.take k))) (fun _ i => d.length - (intOf i).toNat)
  case atStart => exact ⟨0, Nat.zero_le _, rfl, rfl⟩
  case round =>
    obtain ⟨k, hk, rfl, rfl⟩ := hrel
    have bd := expF_bd (all_take k HA.out)
    by_cases hlt : k < d.length
    · have hc := BC.out k hlt
      have HE := Lib.hid (expF_take d k hlt)
      have hdg := List.all_eq_true.1 HA.out _ (getD_mem' hlt)
      unfold isDg at hdg
      simp only [Bool.and_eq_true, decide_eq_true_eq] at hdg
      generalize d.getD k 0 = c at *
      generalize expF (d.take k) = n at *
      have g1 : (48 : Int) ≤ c.toNat := by omega
      have g2 : (c.toNat : Int) ≤ 57 := by omega
      clear hdg
      go_wp2
      go_round
      case rel => exact ⟨k + 1, by omega, by go_num, by rw [HE.out]; first | rfl | rw [expS_if]⟩
      case measure => simp [intOf]; omega
    · have hT : d.take k = d := List.take_of_length_le (by omega)
      rw [hT] at bd ⊢
      clear hT
      generalize hn : expF d = n at *
      have HN := Lib.hid hn
      clear hn
      go_wp2
      go_ret2
      exact ⟨by simp [HN.out], X.out⟩

set_option maxHeartbeats 1000000 in
theorem re_pos_none (s d : List UInt8) (hl : d.length ≤ 1000) (hc : (cut1 45 s).2 = false) (hs : (cut1 43 s).1 = d) (hd : digs d = []) (w : World) :
    Calls Tryz.prog 117 #[.string (bs s)] w fun e w' => e = .returned (.tuple #[.int .i64 0, .bool false]) ∧ Ext w w' := by
  obtain ⟨m1, m2⟩ := list_none hd
  have HC := Lib.hid hc
  have HS := Lib.hid hs
  clear hc hs hd
  have p1 : ∀ w, Calls Tryz.prog 115 #[.string (bs s), .string ⟨#[45]⟩] w fun e w' => e = .returned (.tuple #[.string (bs (cut1 45 s).1), .bool false]) ∧ w = w' := fun w => by have := cutP s 45 w; rw [HC.out] at this; exact this
  have P1 := Lib.hid p1
  clear p1
  have p2 : ∀ w, Calls Tryz.prog 137 #[.string (bs s), .string ⟨#[43]⟩] w fun e w' => e = .returned (.string (bs d)) ∧ w = w' := fun w => by have := trimP s 43 w; rw [HS.out] at this; exact this
  have P2 := Lib.hid p2
  clear p2
  go_enter Tryz.func117, Tryz.ntmps117
  go_wp2_with fail
  refine (P1.out _).mono ?_
  rintro e w' ⟨rfl, rfl⟩
  go_wp2_with fail
  refine (P2.out _).mono ?_
  rintro e w' ⟨rfl, rfl⟩
  go_wp2_with fail
  refine (cutDigits_any d hl _).mono ?_
  rintro e w1 ⟨rfl, hx⟩
  go_wp2
  go_ret2
  exact ⟨rfl, hx⟩

set_option maxHeartbeats 1000000 in
theorem re_pos_more (s d : List UInt8) (hl : d.length ≤ 1000) (hc : (cut1 45 s).2 = false) (hs : (cut1 43 s).1 = d) (hd : digs d ≠ []) (hr : rest d ≠ []) (w : World) :
    Calls Tryz.prog 117 #[.string (bs s)] w fun e w' => e = .returned (.tuple #[.int .i64 0, .bool false]) ∧ Ext w w' := by
  obtain ⟨m1, m2⟩ := list_some hd
  obtain ⟨m3, m4⟩ := list_some hr
  have HC := Lib.hid hc
  have HS := Lib.hid hs
  clear hc hs hd hr
  have p1 : ∀ w, Calls Tryz.prog 115 #[.string (bs s), .string ⟨#[45]⟩] w fun e w' => e = .returned (.tuple #[.string (bs (cut1 45 s).1), .bool false]) ∧ w = w' := fun w => by have := cutP s 45 w; rw [HC.out] at this; exact this
  have P1 := Lib.hid p1
  clear p1
  have p2 : ∀ w, Calls Tryz.prog 137 #[.string (bs s), .string ⟨#[43]⟩] w fun e w' => e = .returned (.string (bs d)) ∧ w = w' := fun w => by have := trimP s 43 w; rw [HS.out] at this; exact this
  have P2 := Lib.hid p2
  clear p2
  go_enter Tryz.func117, Tryz.ntmps117
  go_wp2_with fail
  refine (P1.out _).mono ?_
  rintro e w' ⟨rfl, rfl⟩
  go_wp2_with fail
  refine (P2.out _).mono ?_
  rintro e w' ⟨rfl, rfl⟩
  go_wp2_with fail
  refine (cutDigits_any d hl _).mono ?_
  rintro e w1 ⟨rfl, hx⟩
  go_wp2
  go_ret2
  exact ⟨rfl, hx⟩

set_option maxHeartbeats 1000000 in
theorem re_pos_good (s d : List UInt8) (hl : d.length ≤ 1000) (hc : (cut1 45 s).2 = false) (hs : (cut1 43 s).1 = d) (hd : digs d ≠ []) (hr : rest d = []) (w : World) :
    Calls Tryz.prog 117 #[.string (bs s)] w fun e w' => e = .returned (.tuple #[.int .i64 (expF d), .bool true]) ∧ Ext w w' := by
  obtain ⟨m1, m2⟩ := list_some hd
  obtain ⟨m3, m4⟩ := list_none hr
  have hall := digs_all d
  rw [whole_digs hr] at hall
  have HA := Lib.hid hall
  clear hall
  have kc := fun (w : World) => Lib.run_convert_string_bytes (P := Tryz.prog) w 9 125 5 (bs d) Tryz.underlying9 Tryz.underlying125 Tryz.underlying5
  have zd : (bs d).size = d.length := rfl
  have HC := Lib.hid hc
  have HS := Lib.hid hs
  clear hc hs hd hr
  have p1 : ∀ w, Calls Tryz.prog 115 #[.string (bs s), .string ⟨#[45]⟩] w fun e w' => e = .returned (.tuple #[.string (bs (cut1 45 s).1), .bool false]) ∧ w = w' := fun w => by have := cutP s 45 w; rw [HC.out] at this; exact this
  have P1 := Lib.hid p1
  clear p1
  have p2 : ∀ w, Calls Tryz.prog 137 #[.string (bs s), .string ⟨#[43]⟩] w fun e w' => e = .returned (.string (bs d)) ∧ w = w' := fun w => by have := trimP s 43 w; rw [HS.out] at this; exact this
  have P2 := Lib.hid p2
  clear p2
  go_enter Tryz.func117, Tryz.ntmps117
  go_wp2_with fail
  refine (P1.out _).mono ?_
  rintro e w' ⟨rfl, rfl⟩
  go_wp2_with fail
  refine (P2.out _).mono ?_
  rintro e w' ⟨rfl, rfl⟩
  go_wp2_with fail
  refine (cutDigits_any d hl _).mono ?_
  rintro e w1 ⟨rfl, hx⟩
  go_wp2
  have X := Lib.hid (hx.trans (bytes_ext w1 5 (bs d)))
  have BC := Lib.hid (fun j (hj : j < d.length) => Lib.bytesWorld_cell w1 5 (bs d) j hj)
  simp only [bs_list] at BC
  generalize Lib.bytesWorld w1 5 (bs d) = w2 at *
  clear hx m1 m2 m3 m4 kc
  go_loop [2, 33] (fun n i => ∃ k : Nat, k ≤ d.length ∧ i = .int .i64 k ∧ n = .int .i64 (expF (d.take k))) (fun _ i => d.length - (intOf i).toNat)
  case atStart => exact ⟨0, Nat.zero_le _, rfl, rfl⟩
  case round =>
    obtain ⟨k, hk, rfl, rfl⟩ := hrel
    have bd := expF_bd (all_take k HA.out)
    by_cases hlt : k < d.length
    · have hc := BC.out k hlt
      have HE := Lib.hid (expF_take d k hlt)
      have hdg := List.all_eq_true.1 HA.out _ (getD_mem' hlt)
      unfold isDg at hdg
      simp only [Bool.and_eq_true, decide_eq_true_eq] at hdg
      generalize d.getD k 0 = c at *
      generalize expF (d.take k) = n at *
      have g1 : (48 : Int) ≤ c.toNat := by omega
      have g2 : (c.toNat : Int) ≤ 57 := by omega
      clear hdg
      go_wp2
      go_round
      case rel => exact ⟨k + 1, by omega, by go_num, by rw [HE.out]; first | rfl | rw [expS_if]⟩
      case measure => simp [intOf]; omega
    · have hT : d.take k = d := List.take_of_length_le (by omega)
      rw [hT] at bd ⊢
      clear hT
      generalize hn : expF d = n at *
      have HN := Lib.hid hn
      clear hn
      go_wp2
      go_ret2
      exact ⟨by simp [HN.out], X.out⟩

theorem readExponent_any (s : List UInt8) (hl : s.length ≤ 1000) (w : World) :
    Calls Tryz.prog 117 #[.string (bs s)] w fun e w' => e = .returned (.tuple #[.int .i64 ((expV s).getD 0), .bool (expV s).isSome]) ∧ Ext w w' := by
  have l1 := cut1_le 45 s
  have l2 := cut1_le 43 s
  have hE : expV s = if digs (if (cut1 45 s).2 then (cut1 45 s).1 else (cut1 43 s).1) = [] ∨ rest (if (cut1 45 s).2 then (cut1 45 s).1 else (cut1 43 s).1) ≠ [] then none
      else some (if (cut1 45 s).2 then -(expF (if (cut1 45 s).2 then (cut1 45 s).1 else (cut1 43 s).1)) else expF (if (cut1 45 s).2 then (cut1 45 s).1 else (cut1 43 s).1)) := rfl
  rw [hE]
  cases hc : (cut1 45 s).2 with
  | true =>
    simp only [if_true]
    by_cases h1 : digs (cut1 45 s).1 = []
    · rw [if_pos (.inl h1)]; exact re_neg_none s _ (by omega) hc rfl h1 w
    · by_cases h2 : rest (cut1 45 s).1 = []
      · rw [if_neg (by intro h; rcases h with h | h; exact h1 h; exact h h2)]; exact re_neg_good s _ (by omega) hc rfl h1 h2 w
      · rw [if_pos (.inr h2)]; exact re_neg_more s _ (by omega) hc rfl h1 h2 w
  | false =>
    simp only [Bool.false_eq_true, if_false]
    by_cases h1 : digs (cut1 43 s).1 = []
    · rw [if_pos (.inl h1)]; exact re_pos_none s _ (by omega) hc rfl h1 w
    · by_cases h2 : rest (cut1 43 s).1 = []
      · rw [if_neg (by intro h; rcases h with h | h; exact h1 h; exact h h2)]; exact re_pos_good s _ (by omega) hc rfl h1 h2 w
      · rw [if_pos (.inr h2)]; exact re_pos_more s _ (by omega) hc rfl h1 h2 w
end Go.Proofs.YtoeahfddnjbhbaaGreatDoor
