/- Layer 2: comparison and length of naturals, as the program makes them. -/
import Derived.Test.YtoeahfddnjbhbaaGreatDoorNj
import Derived.Test.YtoeahfddnjbhbaaGreatDoorGa
import Derived.Deep.QuietTactic
import Derived.BigQuiet
namespace Go.Proofs.YtoeahfddnjbhbaaGreatDoor
open Go.RowKit

/-- A contract that leaves the world alone, within a region that draws. -/
theorem quietL {P : Program} {f : FuncId} {args : Array Value} {w : World} {k : Nat} {v : Value} (h : Calls P f args (w.drewN k) fun e w' => e = .returned v ∧ w.drewN k = w') :
    Calls P f args (w.drewN k) fun e w' => e = .returned v ∧ ∃ m, w' = w.drewN m := by
  refine h.mono ?_
  rintro e w' ⟨he, rfl⟩
  exact ⟨he, k, rfl⟩
theorem len64_any (x : Nat) (h : x < 18446744073709551616) (w : World) :
    Calls Tryz.prog 134 #[.int .u64 x] w fun e w' => e = .returned (.int .i64 (nb x)) ∧ w = w' :=
  (Tryz.bits_Len64 x w (by omega) (by omega)).mono fun e w' ⟨h1, h2⟩ => ⟨by rw [h1]; simp only [Int.toNat_natCast, nb_bitLen h], h2.symm⟩
theorem isNaN_u (x : Int) (w : World) :
    Calls Tryz.prog 168 #[.int .u64 x] w fun e w' => e = .returned (.bool false) ∧ w = w' := by
  have h1 : (x != x) = false := by simp
  go_enter Tryz.func168, Tryz.ntmps168
  go_wp2
  go_ret
  exact ⟨rfl, rfl⟩
theorem compareU_any (a b : Nat) (w : World) :
    Calls Tryz.prog 156 #[.int .u64 a, .int .u64 b] w fun e w' => e = .returned (.int .i64 (cmpN a b)) ∧ w = w' := by
  rcases Nat.lt_trichotomy a b with h | h | h
  · have hc : cmpN a b = -1 := by unfold cmpN; rw [if_pos h]
    rw [hc]
    go_enter Tryz.func156, Tryz.ntmps156
    go_wp2_with (first | (go_at_call 168; refine (isNaN_u _ _).mono ?_; rintro e w' ⟨rfl, rfl⟩))
    all_goals go_ret
    all_goals exact ⟨rfl, rfl⟩
  · subst h
    have hc : cmpN a a = 0 := cmp_same a
    rw [hc]
    go_enter Tryz.func156, Tryz.ntmps156
    go_wp2_with (first | (go_at_call 168; refine (isNaN_u _ _).mono ?_; rintro e w' ⟨rfl, rfl⟩))
    all_goals go_ret
    all_goals exact ⟨rfl, rfl⟩
  · have hc : cmpN a b = 1 := by unfold cmpN; rw [if_neg (by omega), if_pos h]
    have h' : ¬ a < b := by omega
    rw [hc]
    go_enter Tryz.func156, Tryz.ntmps156
    go_wp2_with (first | (go_at_call 168; refine (isNaN_u _ _).mono ?_; rintro e w' ⟨rfl, rfl⟩))
    all_goals go_ret
    all_goals exact ⟨rfl, rfl⟩

set_option maxRecDepth 100000 in
set_option maxHeartbeats 2000000 in
theorem compare_V (n m : Nat) (V : Int) (hV : V = cmpN n m) (hn : n < N6) (hm : m < N6) (w : World) :
    Calls Tryz.prog 129 #[.agg #[.int .u64 (L n 0), .int .u64 (L n 1), .int .u64 (L n 2), .int .u64 (L n 3), .int .u64 (L n 4), .int .u64 (L n 5)], .agg #[.int .u64 (L m 0), .int .u64 (L m 1), .int .u64 (L m 2), .int .u64 (L m 3), .int .u64 (L m 4), .int .u64 (L m 5)]] w fun e w' =>
      e = .returned (.int .i64 V) ∧ Ext w w' := by
  have HV := Lib.hid hV
  clear hV
  have HN := Lib.hid hn
  have HM := Lib.hid hm
  clear hn hm
  go_enter Tryz.func129, Tryz.ntmps129
  go_wp2
  go_loopw [5] (fun i wr => ∃ k : Nat, k ≤ 6 ∧ i = .int .i64 ((k : Int) - 1) ∧ (∀ j, k ≤ j → j < 6 → L n j = L m j) ∧ Six wr w.heap.size (L n) ∧ Six wr (w.heap.size + 1) (L m) ∧ Ext w wr) (fun i _ => (intOf i + 1).toNat)
  case atStart =>
    have s1 := six_new w (L n) 124
    have s2 := six_new (w.alloc (.cells #[.int .u64 (L n 0), .int .u64 (L n 1), .int .u64 (L n 2), .int .u64 (L n 3), .int .u64 (L n 4), .int .u64 (L n 5)] 124)) (L m) 124
    simp only [World.size_alloc] at s2
    exact ⟨6, by omega, rfl, fun j h1 h2 => by omega, s1.later ((Ext.refl _).alloc _), s2, ((Ext.refl _).alloc _).alloc _⟩
  case round =>
    obtain ⟨k, hk, rfl, he, hs, hm, hx⟩ := hrel
    have HE := Lib.hid he
    clear he
    cases k with
    | zero =>
      have hc : cmpN n m = 0 := by rw [eq_of_places HN.out HM.out (fun j hj => HE.out j (by omega) hj)]; exact cmp_same m
      obtain rfl : V = 0 := HV.out.trans hc
      clear hc
      have X := Lib.hid hx
      clear hs hm hx
      go_wp2
      go_ret
      exact ⟨rfl, X.out⟩
    | succ q =>
      have eq1 : ((q + 1 : Nat) : Int) - 1 = q := by omega
      rw [eq1]
      clear eq1
      have hc1 := hs.cell q (by omega)
      have hc2 := hm.cell q (by omega)
      have i0 : (0 : Int) ≤ q := by omega
      have i1 : (q : Int) < 6 := by omega
      have S := Lib.hid hs
      have M := Lib.hid hm
      have X := Lib.hid hx
      clear hs hm hx
      by_cases hd : L n q = L m q
      · have hb : ((L n q : Int) != (L m q : Int)) = false := by rw [hd]; simp
        have HD := Lib.hid hd
        clear hd
        go_wp2
        go_region
        all_goals
          go_wp2
          go_roundw
          case rel => exact ⟨q, by omega, rfl, fun j h1 h2 => by
            by_cases h3 : j = q
            · rw [h3]; exact HD.out
            · exact HE.out j (by omega) h2, S.out.drew, M.out.drew, X.out.drew⟩
          case measure => simp [intOf]; try omega
      · have hb : ((L n q : Int) != (L m q : Int)) = true := by simp; omega
        have hc := cmp_at HN.out HM.out (show q < 6 by omega) (fun j h1 h2 => HE.out j (by omega) h2) hd
        obtain rfl : V = cmpN (L n q) (L m q) := HV.out.trans hc
        clear hc hd
        go_wp2
        go_region
        all_goals
          go_wp2
          have g1 := (S.out.drew).cell q (by omega)
          have g2 := (M.out.drew).cell q (by omega)
          have X2 := Lib.hid (X.out.drew)
          clear hc1 hc2 S M X
          generalize wr.drew = w2 at *
          go_quiet ((go_at_call 156; exact quietL (compareU_any _ _ _)))
          go_wp2
          go_ret
          exact ⟨rfl, X2.out.drewN _⟩
theorem compare_any (n m : Nat) (hn : n < N6) (hm : m < N6) (w : World) :
    Calls Tryz.prog 129 #[.agg #[.int .u64 (L n 0), .int .u64 (L n 1), .int .u64 (L n 2), .int .u64 (L n 3), .int .u64 (L n 4), .int .u64 (L n 5)], .agg #[.int .u64 (L m 0), .int .u64 (L m 1), .int .u64 (L m 2), .int .u64 (L m 3), .int .u64 (L m 4), .int .u64 (L m 5)]] w fun e w' =>
      e = .returned (.int .i64 (cmpN n m)) ∧ Ext w w' := compare_V n m _ rfl hn hm w

set_option maxRecDepth 100000 in
set_option maxHeartbeats 2000000 in
theorem length_V (n : Nat) (V : Int) (hV : V = nb n) (hn : n < N6) (w : World) :
    Calls Tryz.prog 144 #[.agg #[.int .u64 (L n 0), .int .u64 (L n 1), .int .u64 (L n 2), .int .u64 (L n 3), .int .u64 (L n 4), .int .u64 (L n 5)]] w fun e w' =>
      e = .returned (.int .i64 V) ∧ Ext w w' := by
  have HV := Lib.hid hV
  have HN := Lib.hid hn
  clear hn hV
  go_enter Tryz.func144, Tryz.ntmps144
  go_wp2
  go_loopw [3] (fun i wr => ∃ k : Nat, k ≤ 6 ∧ i = .int .i64 ((k : Int) - 1) ∧ (∀ j, k ≤ j → j < 6 → L n j = 0) ∧ Six wr w.heap.size (L n) ∧ Ext w wr) (fun i _ => (intOf i + 1).toNat)
  case atStart => exact ⟨6, by omega, rfl, fun j h1 h2 => by omega, six_new w (L n) 124, (Ext.refl _).alloc _⟩
  case round =>
    obtain ⟨k, hk, rfl, he, hs, hx⟩ := hrel
    have HE := Lib.hid he
    clear he
    cases k with
    | zero =>
      have hz := zero_of_places HN.out (fun j hj => HE.out j (by omega) hj)
      obtain rfl : V = 0 := HV.out.trans (by rw [hz]; rfl)
      have X := Lib.hid hx
      clear hs hx hz
      go_wp2
      go_ret
      exact ⟨rfl, X.out⟩
    | succ q =>
      have eq1 : ((q + 1 : Nat) : Int) - 1 = q := by omega
      rw [eq1]
      clear eq1
      have hc1 := hs.cell q (by omega)
      have i0 : (0 : Int) ≤ q := by omega
      have i1 : (q : Int) < 6 := by omega
      have i2 : (q : Int) ≤ 5 := by omega
      have S := Lib.hid hs
      have X := Lib.hid hx
      clear hs hx
      have hl := L_lt n q
      by_cases hd : L n q = 0
      · have hb : ((L n q : Int) != 0) = false := by rw [hd]; rfl
        have HD := Lib.hid hd
        clear hd
        go_wp2
        go_roundw
        case rel => exact ⟨q, by omega, rfl, fun j h1 h2 => by
          by_cases h3 : j = q
          · rw [h3]; exact HD.out
          · exact HE.out j (by omega) h2, S.out, X.out⟩
        case measure => simp [intOf]; try omega
      · have hb : ((L n q : Int) != 0) = true := by simp; omega
        have hc := nb_at HN.out (show q < 6 by omega) (fun j h1 h2 => HE.out j (by omega) h2) hd
        have hn2 := nb_le64 hl
        obtain rfl : V = 64 * (q : Int) + (nb (L n q) : Int) := HV.out.trans (by rw [hc]; simp)
        clear hc hd
        go_wp2_with (first | (go_at_call 134; refine (len64_any _ hl _).mono ?_; rintro e w' ⟨rfl, rfl⟩))
        go_ret
        exact ⟨rfl, X.out⟩
end Go.Proofs.YtoeahfddnjbhbaaGreatDoor
