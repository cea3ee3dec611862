/- Layer 1: texts of integers: what each call gives. -/
import Derived.Test.YtifoeikbjdgdpabDoorMp
import Derived.Test.YtifoeikbjdgdpabDoorWe
import Derived.Test.YtifoeikbjdgdpabDoorExt
import Derived.Lib.Strings
import Derived.Lib.IndexBytes
namespace Go.Proofs.YtifoeikbjdgdpabDoor
open Go.RowKit Go.Lib

theorem take_snocB (s : ByteArray) (k : Nat) (h : k < s.size) : s.data.toList.take (k + 1) = s.data.toList.take k ++ [s[k]] := by
  rw [List.take_succ_eq_append_getElem (by simpa using h)]; rfl
theorem sat_snoc (s : ByteArray) (k : Nat) (h : k < s.size) : satF (s.data.toList.take (k + 1)) = satS (satF (s.data.toList.take k)) s[k] := by
  rw [take_snocB s k h, satF_snoc]
theorem all_snocD (s : ByteArray) (k : Nat) (h : k < s.size) : (s.data.toList.take (k + 1)).all isD = ((s.data.toList.take k).all isD && isD s[k]) := by
  rw [take_snocB s k h, List.all_append]; simp
theorem getElem_memB (s : ByteArray) (k : Nat) (h : k < s.size) : s[k] ∈ s.data.toList := by
  rw [show s[k] = s.data.toList[k]'(by simpa using h) from rfl]; exact List.getElem_mem _
theorem all_bad (s : ByteArray) (k : Nat) (h : k < s.size) (hd : isD s[k] = false) : s.data.toList.all isD = false := by
  rw [← Bool.not_eq_true]
  intro ha
  have := List.all_eq_true.1 ha s[k] (getElem_memB s k h)
  rw [hd] at this; cases this
theorem take_whole (s : ByteArray) (k : Nat) (h : s.size ≤ k) : s.data.toList.take k = s.data.toList := List.take_of_length_le (by simpa using h)
theorem satS_if (n : Int) (c : UInt8) : satS n c = if 2147483648 < n * 10 + ((c.toNat : Int) - 48) then 2147483648 else n * 10 + ((c.toNat : Int) - 48) := by
  unfold satS; split <;> omega
theorem satS_if2 (n : Int) (c : UInt8) : satS n c = if 2147483648 < 10 * n + ((c.toNat : Int) - 48) then 2147483648 else 10 * n + ((c.toNat : Int) - 48) := by
  unfold satS; split <;> omega
theorem isD_of {c : UInt8} (h : (48 : Int) ≤ c.toNat) (h' : (c.toNat : Int) ≤ 57) : isD c = true := isD_t.2 ⟨by omega, by omega⟩
theorem notD_of {c : UInt8} (h : ¬ ((48 : Int) ≤ c.toNat ∧ (c.toNat : Int) ≤ 57)) : isD c = false := isD_f.2 (by omega)
theorem toList_none (s : ByteArray) (h : s.size = 0) : s.toList = [] ∧ s.data.toList = [] := by
  have : s.data.toList = [] := List.eq_nil_of_length_eq_zero (by simpa using h)
  exact ⟨by rw [toList_data, this], this⟩
theorem toList_some (s : ByteArray) (h : 0 < s.size) : ¬ s.toList = [] ∧ s.toList.isEmpty = false ∧ s.data.toList ≠ [] := by
  have h1 : s.data.toList ≠ [] := by
    intro e
    have : s.data.toList.length = s.size := by simp
    rw [e] at this; simp at this; omega
  refine ⟨by rw [toList_data]; exact h1, ?_, h1⟩
  rw [toList_data]
  cases hl : s.data.toList
  · exact absurd hl h1
  · rfl
theorem head_cons (s : ByteArray) (h : 0 < s.size) : s.data.toList = s[0] :: s.data.toList.drop 1 := by
  have h' : 0 < s.data.toList.length := by simpa using h
  have e : s[0] = s.data.toList[0] := rfl
  rw [e]
  have := List.drop_eq_getElem_cons h'
  rwa [List.drop_zero] at this
theorem beq43 {c : UInt8} : ((c.toNat : Int) == 43) = true ↔ c = 43 := by
  rw [beq_iff_eq]; constructor
  · intro h; exact UInt8.toNat_inj.1 (by rw [show (43 : UInt8).toNat = 43 from rfl]; omega)
  · rintro rfl; rfl
theorem beq45 {c : UInt8} : ((c.toNat : Int) == 45) = true ↔ c = 45 := by
  rw [beq_iff_eq]; constructor
  · intro h; exact UInt8.toNat_inj.1 (by rw [show (45 : UInt8).toNat = 45 from rfl]; omega)
  · rintro rfl; rfl
/-- The digits of a text behind its sign. -/
theorem body_sign (s : ByteArray) (h : 0 < s.size) (hc : s[0] = 43 ∨ s[0] = 45) : bodyL s.data.toList = (s.extract 1 s.size).data.toList := by
  rw [extract_to_end]
  conv => lhs; rw [head_cons s h]
  show (if s[0] = 43 ∨ s[0] = 45 then s.data.toList.drop 1 else _) = _
  rw [if_pos hc]
theorem body_bare (s : ByteArray) (h : 0 < s.size) (hc : ¬ (s[0] = 43 ∨ s[0] = 45)) : bodyL s.data.toList = s.data.toList := by
  conv => lhs; rw [head_cons s h]
  show (if s[0] = 43 ∨ s[0] = 45 then s.data.toList.drop 1 else s[0] :: s.data.toList.drop 1) = _
  rw [if_neg hc, ← head_cons s h]
theorem minus_at (s : ByteArray) (h : 0 < s.size) : minusB s.data.toList = decide (s[0] = 45) := by
  rw [head_cons s h]; show (some s[0] == some 45) = _; by_cases e : s[0] = 45 <;> simp [e]
theorem parse_bad {l dl : List UInt8} (hb : bodyL l = dl) (h : dl.all isD = false ∨ dl = []) : parseV l = 0 ∧ parseE l = 7 := by
  have ho : parseOk l = false := by
    unfold parseOk; rw [hb]
    rcases h with h | h
    · rw [h]; simp
    · rw [h]; rfl
  exact ⟨by unfold parseV; rw [ho]; rfl, by unfold parseE; rw [ho]; rfl⟩
theorem parse_good {l dl : List UInt8} (hb : bodyL l = dl) (h : dl.all isD = true) (hne : dl ≠ []) : parseV l = fitV (parseN l) ∧ parseE l = fitE (parseN l) := by
  have ho : parseOk l = true := by
    unfold parseOk; rw [hb, h]
    cases dl
    · exact absurd rfl hne
    · rfl
  exact ⟨by unfold parseV; rw [ho]; rfl, by unfold parseE; rw [ho]; rfl⟩
theorem parseN_p {l dl : List UInt8} (hb : bodyL l = dl) (hm : minusB l = false) : parseN l = satF dl := by unfold parseN; rw [hb, hm]; rfl
theorem parseN_m {l dl : List UInt8} (hb : bodyL l = dl) (hm : minusB l = true) : parseN l = -satF dl := by unfold parseN; rw [hb, hm]; rfl

set_option maxHeartbeats 400000 in
theorem parse_plus (s d : ByteArray) (w : World) (V E : Int) (hs : s.size ≤ 9223372036854775807) (h0 : 0 < s.size) (c43 : ((s[0].toNat : Int) == 43) = true) (c45 : ((s[0].toNat : Int) == 45) = false) (n1 : ¬ s.toList = []) (n2 : s.toList.isEmpty = false) (hd : s.extract 1 s.size = d) (m1 : ¬ d.toList = []) (m2 : d.toList.isEmpty = false) (hds : d.size ≤ 9223372036854775807)
    (hbad : d.data.toList.all isD = false → V = 0 ∧ E = 7) (hgood : d.data.toList.all isD = true → V = fitV (satF d.data.toList) ∧ E = fitE (satF d.data.toList)) :
    Calls Tryd.prog 18 #[.string s] w fun e w' => e = .returned (.tuple #[.int .i64 V, .int .i64 E]) ∧ w = w' := by
  have HB := Lib.hid hbad
  have HG := Lib.hid hgood
  clear hbad hgood
  go_enter Tryd.func18, Tryd.ntmps18
  go_wp2
  clear n1 n2 c43 c45 hd m1 m2
  go_loop [6, 30] (fun n i => ∃ k : Nat, k ≤ d.size ∧ i = .int .i64 k ∧ n = .int .i64 (satF (d.data.toList.take k)) ∧ (d.data.toList.take k).all isD = true) (fun _ i => d.size - (intOf i).toNat)
  case atStart => exact ⟨0, Nat.zero_le _, rfl, rfl, rfl⟩
  case round =>
    obtain ⟨k, hk, rfl, rfl, ho⟩ := hrel
    have HO : Hid ((d.data.toList.take k).all isD = true) := ho
    have bd := satF_bd ho
    clear ho
    by_cases hlt : k < d.size
    · have HS := Lib.hid (sat_snoc d k hlt)
      have HA := Lib.hid (all_snocD d k hlt)
      generalize satF (d.data.toList.take k) = n at *
      by_cases h1 : (48 : Int) ≤ d[k].toNat ∧ (d[k].toNat : Int) ≤ 57
      · obtain ⟨h1, h2⟩ := h1
        have HD := Lib.hid (isD_of h1 h2)
        go_wp2
        go_round
        case rel => exact ⟨k + 1, by omega, by go_num, by rw [HS.out, satS_if], by rw [HA.out, HO.out, HD.out]; rfl⟩
        case measure => simp [intOf]; omega
      · have hV := HB.out (all_bad d k hlt (notD_of h1))
        obtain ⟨rfl, rfl⟩ := hV
        by_cases h2 : (d[k].toNat : Int) < 48
        all_goals
          first | (have h3 : (57 : Int) < d[k].toNat := by omega) | skip
          go_wp2
          go_ret2
          exact ⟨rfl, rfl⟩
    · have hT := take_whole d k (by omega)
      rw [hT] at HO bd ⊢
      have hV := HG.out HO.out
      obtain ⟨hV, hE⟩ := hV
      have HV := Lib.hid hV
      have HE := Lib.hid hE
      clear hV hE hT
      generalize satF d.data.toList = n at *
      go_wp2_with (go_at_call 38; refine (fit_any _ _).mono ?_; rintro e w' ⟨rfl, rfl⟩)
      go_ret2
      exact ⟨by simp [HV.out, HE.out], rfl⟩

set_option maxHeartbeats 400000 in
theorem parse_minus (s d : ByteArray) (w : World) (V E : Int) (hs : s.size ≤ 9223372036854775807) (h0 : 0 < s.size) (c43 : ((s[0].toNat : Int) == 43) = false) (c45 : ((s[0].toNat : Int) == 45) = true) (n1 : ¬ s.toList = []) (n2 : s.toList.isEmpty = false) (hd : s.extract 1 s.size = d) (m1 : ¬ d.toList = []) (m2 : d.toList.isEmpty = false) (hds : d.size ≤ 9223372036854775807)
    (hbad : d.data.toList.all isD = false → V = 0 ∧ E = 7) (hgood : d.data.toList.all isD = true → V = fitV (-satF d.data.toList) ∧ E = fitE (-satF d.data.toList)) :
    Calls Tryd.prog 18 #[.string s] w fun e w' => e = .returned (.tuple #[.int .i64 V, .int .i64 E]) ∧ w = w' := by
  have HB := Lib.hid hbad
  have HG := Lib.hid hgood
  clear hbad hgood
  go_enter Tryd.func18, Tryd.ntmps18
  go_wp2
  clear n1 n2 c43 c45 hd m1 m2
  go_loop [6, 30] (fun n i => ∃ k : Nat, k ≤ d.size ∧ i = .int .i64 k ∧ n = .int .i64 (satF (d.data.toList.take k)) ∧ (d.data.toList.take k).all isD = true) (fun _ i => d.size - (intOf i).toNat)
  case atStart => exact ⟨0, Nat.zero_le _, rfl, rfl, rfl⟩
  case round =>
    obtain ⟨k, hk, rfl, rfl, ho⟩ := hrel
    have HO : Hid ((d.data.toList.take k).all isD = true) := ho
    have bd := satF_bd ho
    clear ho
    by_cases hlt : k < d.size
    · have HS := Lib.hid (sat_snoc d k hlt)
      have HA := Lib.hid (all_snocD d k hlt)
      generalize satF (d.data.toList.take k) = n at *
      by_cases h1 : (48 : Int) ≤ d[k].toNat ∧ (d[k].toNat : Int) ≤ 57
      · obtain ⟨h1, h2⟩ := h1
        have HD := Lib.hid (isD_of h1 h2)
        go_wp2
        go_round
        case rel => exact ⟨k + 1, by omega, by go_num, by rw [HS.out, satS_if], by rw [HA.out, HO.out, HD.out]; rfl⟩
        case measure => simp [intOf]; omega
      · have hV := HB.out (all_bad d k hlt (notD_of h1))
        obtain ⟨rfl, rfl⟩ := hV
        by_cases h2 : (d[k].toNat : Int) < 48
        all_goals
          first | (have h3 : (57 : Int) < d[k].toNat := by omega) | skip
          go_wp2
          go_ret2
          exact ⟨rfl, rfl⟩
    · have hT := take_whole d k (by omega)
      rw [hT] at HO bd ⊢
      have hV := HG.out HO.out
      obtain ⟨hV, hE⟩ := hV
      have HV := Lib.hid hV
      have HE := Lib.hid hE
      clear hV hE hT
      generalize satF d.data.toList = n at *
      go_wp2_with (go_at_call 38; refine (fit_any _ _).mono ?_; rintro e w' ⟨rfl, rfl⟩)
      go_ret2
      exact ⟨by simp [HV.out, HE.out], rfl⟩

set_option maxHeartbeats 400000 in
theorem parse_bare (s : ByteArray) (w : World) (V E : Int) (hs : s.size ≤ 9223372036854775807) (h0 : 0 < s.size) (c43 : ((s[0].toNat : Int) == 43) = false) (c45 : ((s[0].toNat : Int) == 45) = false) (n1 : ¬ s.toList = []) (n2 : s.toList.isEmpty = false)
    (hbad : s.data.toList.all isD = false → V = 0 ∧ E = 7) (hgood : s.data.toList.all isD = true → V = fitV (satF s.data.toList) ∧ E = fitE (satF s.data.toList)) :
    Calls Tryd.prog 18 #[.string s] w fun e w' => e = .returned (.tuple #[.int .i64 V, .int .i64 E]) ∧ w = w' := by
  have HB := Lib.hid hbad
  have HG := Lib.hid hgood
  clear hbad hgood
  go_enter Tryd.func18, Tryd.ntmps18
  go_wp2
  clear n1 n2 c43 c45
  go_loop [6, 30] (fun n i => ∃ k : Nat, k ≤ s.size ∧ i = .int .i64 k ∧ n = .int .i64 (satF (s.data.toList.take k)) ∧ (s.data.toList.take k).all isD = true) (fun _ i => s.size - (intOf i).toNat)
  case atStart => exact ⟨0, Nat.zero_le _, rfl, rfl, rfl⟩
  case round =>
    obtain ⟨k, hk, rfl, rfl, ho⟩ := hrel
    have HO : Hid ((s.data.toList.take k).all isD = true) := ho
    have bd := satF_bd ho
    clear ho
    by_cases hlt : k < s.size
    · have HS := Lib.hid (sat_snoc s k hlt)
      have HA := Lib.hid (all_snocD s k hlt)
      generalize satF (s.data.toList.take k) = n at *
      by_cases h1 : (48 : Int) ≤ s[k].toNat ∧ (s[k].toNat : Int) ≤ 57
      · obtain ⟨h1, h2⟩ := h1
        have HD := Lib.hid (isD_of h1 h2)
        go_wp2
        go_round
        case rel => exact ⟨k + 1, by omega, by go_num, by rw [HS.out, satS_if], by rw [HA.out, HO.out, HD.out]; rfl⟩
        case measure => simp [intOf]; omega
      · have hV := HB.out (all_bad s k hlt (notD_of h1))
        obtain ⟨rfl, rfl⟩ := hV
        by_cases h2 : (s[k].toNat : Int) < 48
        all_goals
          first | (have h3 : (57 : Int) < s[k].toNat := by omega) | skip
          go_wp2
          go_ret2
          exact ⟨rfl, rfl⟩
    · have hT := take_whole s k (by omega)
      rw [hT] at HO bd ⊢
      have hV := HG.out HO.out
      obtain ⟨hV, hE⟩ := hV
      have HV := Lib.hid hV
      have HE := Lib.hid hE
      clear hV hE hT
      generalize satF s.data.toList = n at *
      go_wp2_with (go_at_call 38; refine (fit_any _ _).mono ?_; rintro e w' ⟨rfl, rfl⟩)
      go_ret2
      exact ⟨by simp [HV.out, HE.out], rfl⟩

set_option maxHeartbeats 400000 in
theorem parse_plus0 (s d : ByteArray) (w : World) (hs : s.size ≤ 9223372036854775807) (h0 : 0 < s.size) (c43 : ((s[0].toNat : Int) == 43) = true) (c45 : ((s[0].toNat : Int) == 45) = false) (n1 : ¬ s.toList = []) (n2 : s.toList.isEmpty = false) (hd : s.extract 1 s.size = d) (m1 : d.toList = []) :
    Calls Tryd.prog 18 #[.string s] w fun e w' => e = .returned (.tuple #[.int .i64 0, .int .i64 7]) ∧ w = w' := by
  go_enter Tryd.func18, Tryd.ntmps18
  go_wp2
  go_ret2
  exact ⟨rfl, rfl⟩

set_option maxHeartbeats 400000 in
theorem parse_minus0 (s d : ByteArray) (w : World) (hs : s.size ≤ 9223372036854775807) (h0 : 0 < s.size) (c43 : ((s[0].toNat : Int) == 43) = false) (c45 : ((s[0].toNat : Int) == 45) = true) (n1 : ¬ s.toList = []) (n2 : s.toList.isEmpty = false) (hd : s.extract 1 s.size = d) (m1 : d.toList = []) :
    Calls Tryd.prog 18 #[.string s] w fun e w' => e = .returned (.tuple #[.int .i64 0, .int .i64 7]) ∧ w = w' := by
  go_enter Tryd.func18, Tryd.ntmps18
  go_wp2
  go_ret2
  exact ⟨rfl, rfl⟩

theorem parse_none (s : ByteArray) (w : World) (n1 : s.toList = []) :
    Calls Tryd.prog 18 #[.string s] w fun e w' => e = .returned (.tuple #[.int .i64 0, .int .i64 7]) ∧ w = w' := by
  go_enter Tryd.func18, Tryd.ntmps18
  go_wp2
  go_ret2
  exact ⟨rfl, rfl⟩

theorem parse_any (s : ByteArray) (w : World) (hs : s.size ≤ 9223372036854775807) :
    Calls Tryd.prog 18 #[.string s] w fun e w' => e = .returned (.tuple #[.int .i64 (parseV s.data.toList), .int .i64 (parseE s.data.toList)]) ∧ w = w' := by
  rcases Nat.eq_zero_or_pos s.size with h | h
  · obtain ⟨h1, h2⟩ := toList_none s h
    obtain ⟨e1, e2⟩ := parse_bad (l := s.data.toList) (dl := []) (by rw [h2]; rfl) (.inr rfl)
    rw [e1, e2]
    exact parse_none s w h1
  · obtain ⟨n1, n2, n3⟩ := toList_some s h
    have hm := minus_at s h
    have hds : (s.extract 1 s.size).size ≤ 9223372036854775807 := by
      have : (s.extract 1 s.size).size ≤ s.size := by simp
      omega
    rcases Bool.eq_false_or_eq_true ((s[0].toNat : Int) == 43) with c43 | c43
    · have e := beq43.1 c43
      have c45 : ((s[0].toNat : Int) == 45) = false := by rw [e]; rfl
      have hb := body_sign s h (.inl e)
      have hm' : minusB s.data.toList = false := by rw [hm, e]; rfl
      rcases Nat.eq_zero_or_pos (s.extract 1 s.size).size with g | g
      · obtain ⟨g1, g2⟩ := toList_none _ g
        obtain ⟨e1, e2⟩ := parse_bad hb (.inr g2)
        rw [e1, e2]
        exact parse_plus0 s _ w hs h c43 c45 n1 n2 rfl g1
      · obtain ⟨m1, m2, m3⟩ := toList_some _ g
        exact parse_plus s _ w _ _ hs h c43 c45 n1 n2 rfl m1 m2 hds (fun hx => parse_bad hb (.inl hx)) (fun hx => by rw [← parseN_p hb hm']; exact parse_good hb hx m3)
    · have e : ¬ s[0] = 43 := fun e => by rw [beq43.2 e] at c43; cases c43
      rcases Bool.eq_false_or_eq_true ((s[0].toNat : Int) == 45) with c45 | c45
      · have e := beq45.1 c45
        have hb := body_sign s h (.inr e)
        have hm' : minusB s.data.toList = true := by rw [hm, e]; rfl
        rcases Nat.eq_zero_or_pos (s.extract 1 s.size).size with g | g
        · obtain ⟨g1, g2⟩ := toList_none _ g
          obtain ⟨e1, e2⟩ := parse_bad hb (.inr g2)
          rw [e1, e2]
          exact parse_minus0 s _ w hs h c43 c45 n1 n2 rfl g1
        · obtain ⟨m1, m2, m3⟩ := toList_some _ g
          exact parse_minus s _ w _ _ hs h c43 c45 n1 n2 rfl m1 m2 hds (fun hx => parse_bad hb (.inl hx)) (fun hx => by rw [← parseN_m hb hm']; exact parse_good hb hx m3)
      · have e' : ¬ s[0] = 45 := fun e => by rw [beq45.2 e] at c45; cases c45
        have hb := body_bare s h (fun x => x.elim e e')
        have hm' : minusB s.data.toList = false := by rw [hm]; exact decide_eq_false e'
        exact parse_bare s w _ _ hs h c43 c45 n1 n2 (fun hx => parse_bad hb (.inl hx)) (fun hx => by rw [← parseN_p hb hm']; exact parse_good hb hx n3)

/-! ### The reference -/
def allFrom (s : ByteArray) (f k : Nat) : Bool := ((s.data.toList.drop f).take (k - f)).all isD
def satFrom (s : ByteArray) (f k : Nat) : Int := satF ((s.data.toList.drop f).take (k - f))
theorem dtake_snoc (s : ByteArray) (f k : Nat) (hf : f ≤ k) (h : k < s.size) : (s.data.toList.drop f).take (k + 1 - f) = (s.data.toList.drop f).take (k - f) ++ [s[k]] := by
  have h' : k - f < (s.data.toList.drop f).length := by rw [List.length_drop]; have : s.data.toList.length = s.size := by simp
                                                        omega
  rw [show k + 1 - f = k - f + 1 by omega, List.take_succ_eq_append_getElem h', List.getElem_drop]
  congr 2
  simp only [show f + (k - f) = k by omega]
  rfl
theorem allFrom_start (s : ByteArray) (f : Nat) : allFrom s f f = true := by unfold allFrom; simp
theorem satFrom_start (s : ByteArray) (f : Nat) : satFrom s f f = 0 := by unfold satFrom; simp [satF]
theorem allFrom_step (s : ByteArray) (f k : Nat) (hf : f ≤ k) (h : k < s.size) : allFrom s f (k + 1) = (allFrom s f k && isD s[k]) := by
  unfold allFrom; rw [dtake_snoc s f k hf h, List.all_append]; simp
theorem satFrom_step (s : ByteArray) (f k : Nat) (hf : f ≤ k) (h : k < s.size) : satFrom s f (k + 1) = satS (satFrom s f k) s[k] := by
  unfold satFrom; rw [dtake_snoc s f k hf h, satF_snoc]
theorem allFrom_end (s : ByteArray) (f k : Nat) (h : s.size ≤ k) : allFrom s f k = (s.data.toList.drop f).all isD := by
  unfold allFrom; rw [List.take_of_length_le]; rw [List.length_drop]; have : s.data.toList.length = s.size := by simp
  omega
theorem satFrom_end (s : ByteArray) (f k : Nat) (h : s.size ≤ k) : satFrom s f k = satF (s.data.toList.drop f) := by
  unfold satFrom; rw [List.take_of_length_le]; rw [List.length_drop]; have : s.data.toList.length = s.size := by simp
  omega
theorem satFrom_bd (s : ByteArray) (f k : Nat) (h : (s.data.toList.drop f).all isD = true) : 0 ≤ satFrom s f k ∧ satFrom s f k ≤ 2147483648 :=
  satF_bd (List.all_eq_true.2 fun x hx => List.all_eq_true.1 h x (List.mem_of_mem_take hx))
theorem dmem (s : ByteArray) (f k : Nat) (hf : f ≤ k) (h : k < s.size) : s[k] ∈ s.data.toList.drop f := by
  have h' : k - f < (s.data.toList.drop f).length := by rw [List.length_drop]; have : s.data.toList.length = s.size := by simp
                                                        omega
  have := List.getElem_mem h'
  rw [List.getElem_drop] at this
  simp only [show f + (k - f) = k by omega] at this
  exact this
theorem dig_at (s : ByteArray) (f k : Nat) (hf : f ≤ k) (h : k < s.size) (ha : (s.data.toList.drop f).all isD = true) : (48 : Int) ≤ s[k].toNat ∧ (s[k].toNat : Int) ≤ 57 := by
  have := isD_t.1 (List.all_eq_true.1 ha s[k] (dmem s f k hf h)); omega
theorem allFrom_bad (s : ByteArray) (f k : Nat) (hf : f ≤ k) (h : k < s.size) (hd : isD s[k] = false) : (s.data.toList.drop f).all isD = false := by
  rw [← Bool.not_eq_true]; intro ha
  have := List.all_eq_true.1 ha s[k] (dmem s f k hf h)
  rw [hd] at this; cases this
theorem fit_out {n : Int} (h : 2147483647 < n) : fitV n = 0 ∧ fitE n = 3 ∧ fitV (-n) = 0 ∧ fitE (-n) = 3 := by
  have h1 : okB n = false := okB_f.2 (by omega)
  have h2 : okB (-n) = false := okB_f.2 (by omega)
  unfold fitV fitE; rw [h1, h2]; simp
theorem fit_in {n : Int} (h0 : 0 ≤ n) (h : ¬ 2147483647 < n) : fitV n = n ∧ fitE n = 0 ∧ fitV (-n) = -n ∧ fitE (-n) = 0 := by
  have h1 : okB n = true := okB_t.2 (by omega)
  have h2 : okB (-n) = true := okB_t.2 (by omega)
  unfold fitV fitE; rw [h1, h2]; simp
theorem body_sign' (s : ByteArray) (h : 0 < s.size) (hc : s[0] = 43 ∨ s[0] = 45) : bodyL s.data.toList = s.data.toList.drop 1 := by
  rw [body_sign s h hc, extract_to_end]

set_option maxHeartbeats 400000 in
theorem rparse_plus (s : ByteArray) (w : World) (V E : Int) (hs : s.size ≤ 9223372036854775807) (h0 : 0 < s.size) (c43 : ((s[0].toNat : Int) == 43) = true) (c45 : ((s[0].toNat : Int) == 45) = false) (ne : ((1 : Int) == (s.size : Int)) = false) (hge : 1 ≤ s.size)
    (hbad : (s.data.toList.drop 1).all isD = false → V = 0 ∧ E = 7) (hgood : (s.data.toList.drop 1).all isD = true → V = fitV (satF (s.data.toList.drop 1)) ∧ E = fitE (satF (s.data.toList.drop 1))) :
    Calls Tryd.prog 19 #[.string s] w fun e w' => e = .returned (.tuple #[.int .i64 V, .int .i64 E]) ∧ w = w' := by
  have HB := Lib.hid hbad
  have HG := Lib.hid hgood
  clear hbad hgood
  go_enter Tryd.func19, Tryd.ntmps19
  go_wp2
  go_loop [5] (fun i => ∃ k : Nat, 1 ≤ k ∧ k ≤ s.size ∧ i = .int .i64 k ∧ allFrom s 1 k = true) (fun i => s.size - (intOf i).toNat)
  case atStart => exact ⟨1, by omega, by omega, rfl, allFrom_start s 1⟩
  case round =>
    obtain ⟨k, hf, hk, rfl, ho⟩ := hrel
    have HO := Lib.hid ho
    clear ho
    by_cases hlt : k < s.size
    · have HA := Lib.hid (allFrom_step s 1 k hf hlt)
      by_cases h1 : (48 : Int) ≤ s[k].toNat ∧ (s[k].toNat : Int) ≤ 57
      · obtain ⟨h1, h2⟩ := h1
        have HD := Lib.hid (isD_of h1 h2)
        go_wp2
        go_round
        case rel => exact ⟨k + 1, by omega, by omega, by go_num, by rw [HA.out, HO.out, HD.out]; rfl⟩
        case measure => simp [intOf]; omega
      · have hV := HB.out (allFrom_bad s 1 k hf hlt (notD_of h1))
        obtain ⟨rfl, rfl⟩ := hV
        by_cases h2 : (s[k].toNat : Int) < 48
        all_goals
          first | (have h3 : (57 : Int) < s[k].toNat := by omega) | skip
          go_wp2
          go_ret2
          exact ⟨rfl, rfl⟩
    · have ha : (s.data.toList.drop 1).all isD = true := by rw [← allFrom_end s 1 k (by omega)]; exact HO.out
      have hV := HG.out ha
      have HAll := Lib.hid ha
      clear ha HO
      obtain ⟨hV, hE⟩ := hV
      have HV := Lib.hid hV
      have HE := Lib.hid hE
      clear hV hE
      go_wp2
      go_loop [6, 7] (fun n i => ∃ j : Nat, 1 ≤ j ∧ j ≤ s.size ∧ i = .int .i64 j ∧ n = .int .i64 (satFrom s 1 j)) (fun _ i => s.size - (intOf i).toNat)
      case atStart => exact ⟨1, by omega, by omega, rfl, by rw [satFrom_start]⟩
      case round =>
        obtain ⟨j, hf2, hj, rfl, rfl⟩ := hrel
        have bd := satFrom_bd s 1 j HAll.out
        by_cases hlt2 : j < s.size
        · have HS := Lib.hid (satFrom_step s 1 j hf2 hlt2)
          obtain ⟨h1, h2⟩ := dig_at s 1 j hf2 hlt2 HAll.out
          generalize satFrom s 1 j = n at *
          go_wp2
          go_round
          case rel => exact ⟨j + 1, by omega, by omega, by go_num, by rw [HS.out, satS_if2]⟩
          case measure => simp [intOf]; omega
        · have hT := satFrom_end s 1 j (by omega)
          have HV2 := Lib.hid (hT ▸ HV.out)
          have HE2 := Lib.hid (hT ▸ HE.out)
          clear hT
          generalize satFrom s 1 j = n at *
          by_cases hn : (2147483647 : Int) < n
          · obtain ⟨a1, a2, a3, a4⟩ := fit_out hn
            have b1 : V = 0 := by rw [HV2.out]; assumption
            have b2 : E = 3 := by rw [HE2.out]; assumption
            subst b1 b2
            clear a1 a2 a3 a4
            go_wp2
            go_ret2
            exact ⟨rfl, rfl⟩
          · obtain ⟨a1, a2, a3, a4⟩ := fit_in bd.1 hn
            have b1 : V = n := by rw [HV2.out]; assumption
            have b2 : E = 0 := by rw [HE2.out]; assumption
            subst b1 b2
            clear a1 a2 a3 a4
            go_wp2
            go_ret2
            exact ⟨rfl, rfl⟩

set_option maxHeartbeats 400000 in
theorem rparse_minus (s : ByteArray) (w : World) (V E : Int) (hs : s.size ≤ 9223372036854775807) (h0 : 0 < s.size) (c43 : ((s[0].toNat : Int) == 43) = false) (c45 : ((s[0].toNat : Int) == 45) = true) (ne : ((1 : Int) == (s.size : Int)) = false) (hge : 1 ≤ s.size)
    (hbad : (s.data.toList.drop 1).all isD = false → V = 0 ∧ E = 7) (hgood : (s.data.toList.drop 1).all isD = true → V = fitV (-satF (s.data.toList.drop 1)) ∧ E = fitE (-satF (s.data.toList.drop 1))) :
    Calls Tryd.prog 19 #[.string s] w fun e w' => e = .returned (.tuple #[.int .i64 V, .int .i64 E]) ∧ w = w' := by
  have HB := Lib.hid hbad
  have HG := Lib.hid hgood
  clear hbad hgood
  go_enter Tryd.func19, Tryd.ntmps19
  go_wp2
  go_loop [5] (fun i => ∃ k : Nat, 1 ≤ k ∧ k ≤ s.size ∧ i = .int .i64 k ∧ allFrom s 1 k = true) (fun i => s.size - (intOf i).toNat)
  case atStart => exact ⟨1, by omega, by omega, rfl, allFrom_start s 1⟩
  case round =>
    obtain ⟨k, hf, hk, rfl, ho⟩ := hrel
    have HO := Lib.hid ho
    clear ho
    by_cases hlt : k < s.size
    · have HA := Lib.hid (allFrom_step s 1 k hf hlt)
      by_cases h1 : (48 : Int) ≤ s[k].toNat ∧ (s[k].toNat : Int) ≤ 57
      · obtain ⟨h1, h2⟩ := h1
        have HD := Lib.hid (isD_of h1 h2)
        go_wp2
        go_round
        case rel => exact ⟨k + 1, by omega, by omega, by go_num, by rw [HA.out, HO.out, HD.out]; rfl⟩
        case measure => simp [intOf]; omega
      · have hV := HB.out (allFrom_bad s 1 k hf hlt (notD_of h1))
        obtain ⟨rfl, rfl⟩ := hV
        by_cases h2 : (s[k].toNat : Int) < 48
        all_goals
          first | (have h3 : (57 : Int) < s[k].toNat := by omega) | skip
          go_wp2
          go_ret2
          exact ⟨rfl, rfl⟩
    · have ha : (s.data.toList.drop 1).all isD = true := by rw [← allFrom_end s 1 k (by omega)]; exact HO.out
      have hV := HG.out ha
      have HAll := Lib.hid ha
      clear ha HO
      obtain ⟨hV, hE⟩ := hV
      have HV := Lib.hid hV
      have HE := Lib.hid hE
      clear hV hE
      go_wp2
      go_loop [6, 7] (fun n i => ∃ j : Nat, 1 ≤ j ∧ j ≤ s.size ∧ i = .int .i64 j ∧ n = .int .i64 (satFrom s 1 j)) (fun _ i => s.size - (intOf i).toNat)
      case atStart => exact ⟨1, by omega, by omega, rfl, by rw [satFrom_start]⟩
      case round =>
        obtain ⟨j, hf2, hj, rfl, rfl⟩ := hrel
        have bd := satFrom_bd s 1 j HAll.out
        by_cases hlt2 : j < s.size
        · have HS := Lib.hid (satFrom_step s 1 j hf2 hlt2)
          obtain ⟨h1, h2⟩ := dig_at s 1 j hf2 hlt2 HAll.out
          generalize satFrom s 1 j = n at *
          go_wp2
          go_round
          case rel => exact ⟨j + 1, by omega, by omega, by go_num, by rw [HS.out, satS_if2]⟩
          case measure => simp [intOf]; omega
        · have hT := satFrom_end s 1 j (by omega)
          have HV2 := Lib.hid (hT ▸ HV.out)
          have HE2 := Lib.hid (hT ▸ HE.out)
          clear hT
          generalize satFrom s 1 j = n at *
          by_cases hn : (2147483647 : Int) < n
          · obtain ⟨a1, a2, a3, a4⟩ := fit_out hn
            have b1 : V = 0 := by rw [HV2.out]; assumption
            have b2 : E = 3 := by rw [HE2.out]; assumption
            subst b1 b2
            clear a1 a2 a3 a4
            go_wp2
            go_ret2
            exact ⟨rfl, rfl⟩
          · obtain ⟨a1, a2, a3, a4⟩ := fit_in bd.1 hn
            have b1 : V = -n := by rw [HV2.out]; assumption
            have b2 : E = 0 := by rw [HE2.out]; assumption
            subst b1 b2
            clear a1 a2 a3 a4
            go_wp2
            go_ret2
            exact ⟨rfl, rfl⟩

set_option maxHeartbeats 400000 in
theorem rparse_bare (s : ByteArray) (w : World) (V E : Int) (hs : s.size ≤ 9223372036854775807) (h0 : 0 < s.size) (c43 : ((s[0].toNat : Int) == 43) = false) (c45 : ((s[0].toNat : Int) == 45) = false) (ne : ((0 : Int) == (s.size : Int)) = false) (hge : 0 ≤ s.size)
    (hbad : (s.data.toList.drop 0).all isD = false → V = 0 ∧ E = 7) (hgood : (s.data.toList.drop 0).all isD = true → V = fitV (satF (s.data.toList.drop 0)) ∧ E = fitE (satF (s.data.toList.drop 0))) :
    Calls Tryd.prog 19 #[.string s] w fun e w' => e = .returned (.tuple #[.int .i64 V, .int .i64 E]) ∧ w = w' := by
  have HB := Lib.hid hbad
  have HG := Lib.hid hgood
  clear hbad hgood
  go_enter Tryd.func19, Tryd.ntmps19
  go_wp2
  go_loop [5] (fun i => ∃ k : Nat, 0 ≤ k ∧ k ≤ s.size ∧ i = .int .i64 k ∧ allFrom s 0 k = true) (fun i => s.size - (intOf i).toNat)
  case atStart => exact ⟨0, by omega, by omega, rfl, allFrom_start s 0⟩
  case round =>
    obtain ⟨k, hf, hk, rfl, ho⟩ := hrel
    have HO := Lib.hid ho
    clear ho
    by_cases hlt : k < s.size
    · have HA := Lib.hid (allFrom_step s 0 k hf hlt)
      by_cases h1 : (48 : Int) ≤ s[k].toNat ∧ (s[k].toNat : Int) ≤ 57
      · obtain ⟨h1, h2⟩ := h1
        have HD := Lib.hid (isD_of h1 h2)
        go_wp2
        go_round
        case rel => exact ⟨k + 1, by omega, by omega, by go_num, by rw [HA.out, HO.out, HD.out]; rfl⟩
        case measure => simp [intOf]; omega
      · have hV := HB.out (allFrom_bad s 0 k hf hlt (notD_of h1))
        obtain ⟨rfl, rfl⟩ := hV
        by_cases h2 : (s[k].toNat : Int) < 48
        all_goals
          first | (have h3 : (57 : Int) < s[k].toNat := by omega) | skip
          go_wp2
          go_ret2
          exact ⟨rfl, rfl⟩
    · have ha : (s.data.toList.drop 0).all isD = true := by rw [← allFrom_end s 0 k (by omega)]; exact HO.out
      have hV := HG.out ha
      have HAll := Lib.hid ha
      clear ha HO
      obtain ⟨hV, hE⟩ := hV
      have HV := Lib.hid hV
      have HE := Lib.hid hE
      clear hV hE
      go_wp2
      go_loop [6, 7] (fun n i => ∃ j : Nat, 0 ≤ j ∧ j ≤ s.size ∧ i = .int .i64 j ∧ n = .int .i64 (satFrom s 0 j)) (fun _ i => s.size - (intOf i).toNat)
      case atStart => exact ⟨0, by omega, by omega, rfl, by rw [satFrom_start]⟩
      case round =>
        obtain ⟨j, hf2, hj, rfl, rfl⟩ := hrel
        have bd := satFrom_bd s 0 j HAll.out
        by_cases hlt2 : j < s.size
        · have HS := Lib.hid (satFrom_step s 0 j hf2 hlt2)
          obtain ⟨h1, h2⟩ := dig_at s 0 j hf2 hlt2 HAll.out
          generalize satFrom s 0 j = n at *
          go_wp2
          go_round
          case rel => exact ⟨j + 1, by omega, by omega, by go_num, by rw [HS.out, satS_if2]⟩
          case measure => simp [intOf]; omega
        · have hT := satFrom_end s 0 j (by omega)
          have HV2 := Lib.hid (hT ▸ HV.out)
          have HE2 := Lib.hid (hT ▸ HE.out)
          clear hT
          generalize satFrom s 0 j = n at *
          by_cases hn : (2147483647 : Int) < n
          · obtain ⟨a1, a2, a3, a4⟩ := fit_out hn
            have b1 : V = 0 := by rw [HV2.out]; assumption
            have b2 : E = 3 := by rw [HE2.out]; assumption
            subst b1 b2
            clear a1 a2 a3 a4
            go_wp2
            go_ret2
            exact ⟨rfl, rfl⟩
          · obtain ⟨a1, a2, a3, a4⟩ := fit_in bd.1 hn
            have b1 : V = n := by rw [HV2.out]; assumption
            have b2 : E = 0 := by rw [HE2.out]; assumption
            subst b1 b2
            clear a1 a2 a3 a4
            go_wp2
            go_ret2
            exact ⟨rfl, rfl⟩

set_option maxHeartbeats 400000 in
theorem rparse_plus0 (s : ByteArray) (w : World) (h0 : 0 < s.size) (c43 : ((s[0].toNat : Int) == 43) = true) (c45 : ((s[0].toNat : Int) == 45) = false) (ne : ((1 : Int) == (s.size : Int)) = true) :
    Calls Tryd.prog 19 #[.string s] w fun e w' => e = .returned (.tuple #[.int .i64 0, .int .i64 7]) ∧ w = w' := by
  go_enter Tryd.func19, Tryd.ntmps19
  go_wp2
  go_ret2
  exact ⟨rfl, rfl⟩

set_option maxHeartbeats 400000 in
theorem rparse_minus0 (s : ByteArray) (w : World) (h0 : 0 < s.size) (c43 : ((s[0].toNat : Int) == 43) = false) (c45 : ((s[0].toNat : Int) == 45) = true) (ne : ((1 : Int) == (s.size : Int)) = true) :
    Calls Tryd.prog 19 #[.string s] w fun e w' => e = .returned (.tuple #[.int .i64 0, .int .i64 7]) ∧ w = w' := by
  go_enter Tryd.func19, Tryd.ntmps19
  go_wp2
  go_ret2
  exact ⟨rfl, rfl⟩

theorem rparse_none (s : ByteArray) (w : World) (h : ¬ 0 < s.size) (ne : ((0 : Int) == (s.size : Int)) = true) :
    Calls Tryd.prog 19 #[.string s] w fun e w' => e = .returned (.tuple #[.int .i64 0, .int .i64 7]) ∧ w = w' := by
  go_enter Tryd.func19, Tryd.ntmps19
  go_wp2
  go_ret2
  exact ⟨rfl, rfl⟩

theorem rparse_any (s : ByteArray) (w : World) (hs : s.size ≤ 9223372036854775807) :
    Calls Tryd.prog 19 #[.string s] w fun e w' => e = .returned (.tuple #[.int .i64 (parseV s.data.toList), .int .i64 (parseE s.data.toList)]) ∧ w = w' := by
  rcases Nat.eq_zero_or_pos s.size with h | h
  · obtain ⟨h1, h2⟩ := toList_none s h
    obtain ⟨e1, e2⟩ := parse_bad (l := s.data.toList) (dl := []) (by rw [h2]; rfl) (.inr rfl)
    rw [e1, e2]
    exact rparse_none s w (by omega) (by rw [h]; rfl)
  · have hm := minus_at s h
    have n3 := (toList_some s h).2.2
    have hlen : s.data.toList.length = s.size := by simp
    have dne : 1 < s.size → s.data.toList.drop 1 ≠ [] := fun g e => by
      have := congrArg List.length e
      rw [List.length_drop] at this; simp at this; omega
    have dno : s.size = 1 → s.data.toList.drop 1 = [] := fun g => List.eq_nil_of_length_eq_zero (by rw [List.length_drop]; omega)
    have b1 : s.size = 1 → ((1 : Int) == (s.size : Int)) = true := fun g => by rw [g]; rfl
    have b2 : s.size ≠ 1 → ((1 : Int) == (s.size : Int)) = false := fun g => by rw [beq_eq_false_iff_ne]; omega
    rcases Bool.eq_false_or_eq_true ((s[0].toNat : Int) == 43) with c43 | c43
    · have e := beq43.1 c43
      have c45 : ((s[0].toNat : Int) == 45) = false := by rw [e]; rfl
      have hb := body_sign' s h (.inl e)
      have hm' : minusB s.data.toList = false := by rw [hm, e]; rfl
      by_cases g : s.size = 1
      · obtain ⟨e1, e2⟩ := parse_bad hb (.inr (dno g))
        rw [e1, e2]
        exact rparse_plus0 s w h c43 c45 (b1 g)
      · exact rparse_plus s w _ _ hs h c43 c45 (b2 g) (by omega) (fun hx => parse_bad hb (.inl hx)) (fun hx => by rw [← parseN_p hb hm']; exact parse_good hb hx (dne (by omega)))
    · have e : ¬ s[0] = 43 := fun e => by rw [beq43.2 e] at c43; cases c43
      rcases Bool.eq_false_or_eq_true ((s[0].toNat : Int) == 45) with c45 | c45
      · have e := beq45.1 c45
        have hb := body_sign' s h (.inr e)
        have hm' : minusB s.data.toList = true := by rw [hm, e]; rfl
        by_cases g : s.size = 1
        · obtain ⟨e1, e2⟩ := parse_bad hb (.inr (dno g))
          rw [e1, e2]
          exact rparse_minus0 s w h c43 c45 (b1 g)
        · exact rparse_minus s w _ _ hs h c43 c45 (b2 g) (by omega) (fun hx => parse_bad hb (.inl hx)) (fun hx => by rw [← parseN_m hb hm']; exact parse_good hb hx (dne (by omega)))
      · have e' : ¬ s[0] = 45 := fun e => by rw [beq45.2 e] at c45; cases c45
        have hb : bodyL s.data.toList = s.data.toList.drop 0 := body_bare s h (fun x => x.elim e e')
        have hm' : minusB s.data.toList = false := by rw [hm]; exact decide_eq_false e'
        exact rparse_bare s w _ _ hs h c43 c45 (by rw [beq_eq_false_iff_ne]; omega) (by omega) (fun hx => parse_bad hb (.inl hx)) (fun hx => by rw [← parseN_p hb hm']; exact parse_good hb hx n3)

end Go.Proofs.YtifoeikbjdgdpabDoor
