/- Layer 1: sums of lists. -/
import Derived.Test.YthbajdpblgclpaaMe
import Derived.Test.YthbajdpblgclpaaWg
import Derived.Test.YthbajdpblgclpaaLaw
namespace Go.Proofs.Ythbajdpblgclpaa
open Go.RowKit

theorem sum_at (b off cap : Nat) (l : List Int) (w : World) (hbig : l.length ≤ 9223372036854775807) (hc : ∀ j, j < l.length → w.cell? ⟨b, off + j, none⟩ = some (.int .i64 (l.getD j 0))) :
    Calls Try.prog 45 #[.slice (some ⟨b, off, none⟩) l.length cap] w fun e w' => e = .returned (.tuple #[.int .i64 (sumV l), .int .i64 (sumE l)]) ∧ w = w' := by
  have HC : Hid (∀ j, j < l.length → w.cell? ⟨b, off + j, none⟩ = some (.int .i64 (l.getD j 0))) := hc
  clear hc
  go_enter Try.func45, Try.ntmps45
  go_wp2
  go_loop [4, 9] (fun s i => ∃ k : Nat, k ≤ l.length ∧ i = .int .i64 k ∧ s = .int .i64 (sumF (l.take k)) ∧ (l.take k).all okB = true) (fun _ i => l.length - (intOf i).toNat)
  case atStart => exact ⟨0, Nat.zero_le _, rfl, rfl, rfl⟩
  case round =>
    obtain ⟨k, hk, rfl, rfl, ho⟩ := hrel
    by_cases hlt : k < l.length
    · have HA := Lib.hid (all_snoc l k hlt)
      have HS := Lib.hid (sumF_snoc l k hlt)
      have HN := Lib.hid (fun h : okB (l.getD k 0) = false => sumE_bad (all_not hlt h))
      have hcell := HC.out k hlt
      have HO : Hid ((l.take k).all okB = true) := ho
      clear ho
      generalize l.getD k 0 = n at *
      rcases Bool.eq_false_or_eq_true (okB n) with hn | hn
      · go_wp2_with (first | (go_at_call 20; refine (valid_any _ _).mono ?_; rintro e w' ⟨rfl, rfl⟩))
        go_round
        case rel => exact ⟨k + 1, by omega, by go_num, by rw [HS.out], by rw [HA.out, HO.out, hn]; rfl⟩
        case measure => simp [intOf]; omega
      · have h2 := HN.out hn
        obtain ⟨e1, e2⟩ := h2
        go_wp2_with (first | (go_at_call 20; refine (valid_any _ _).mono ?_; rintro e w' ⟨rfl, rfl⟩))
        go_ret2
        exact ⟨by simp [e1, e2], rfl⟩
    · have hT := take_all l (show l.length ≤ k by omega)
      rw [hT] at ho
      obtain ⟨e1, e2⟩ := sumE_ok ho
      rw [hT]
      clear hT ho
      go_wp2_with (first | (go_at_call 77; refine (fit_any _ _).mono ?_; rintro e w' ⟨rfl, rfl⟩))
      go_ret2
      exact ⟨by simp [e1, e2], rfl⟩

theorem sum_nil (a : Option Addr) (cap : Nat) (w : World) :
    Calls Try.prog 45 #[.slice a 0 cap] w fun e w' => e = .returned (.tuple #[.int .i64 (sumV []), .int .i64 (sumE [])]) ∧ w = w' := by
  have e1 : sumV [] = 0 := by decide
  have e2 : sumE [] = 0 := by decide
  have e3 : fitV 0 = 0 := by decide
  have e4 : fitE 0 = 0 := by decide
  go_enter Try.func45, Try.ntmps45
  go_wp2
  refine wp_loop_rounds 1 ?_
  rw [rounds_succ]
  go_wp2_with (first | (go_at_call 77; refine (fit_any _ _).mono ?_; rintro e w' ⟨rfl, rfl⟩))
  go_ret2
  exact ⟨by simp [e1, e2], rfl⟩

theorem sum_any (v : Value) (l : List Int) (w : World) (h : IsInts w v l) :
    Calls Try.prog 45 #[v] w fun e w' => e = .returned (.tuple #[.int .i64 (sumV l), .int .i64 (sumE l)]) ∧ w = w' := by
  rcases h with ⟨a, cap, rfl, rfl⟩ | ⟨b, off, cap, rfl, hb, hl, hc, hw⟩
  · exact sum_nil a cap w
  · exact sum_at b off cap l w (by omega) hc

theorem rsum_at (b off cap : Nat) (l : List Int) (w : World) (hbig : l.length ≤ 9223372036854775807) (hc : ∀ j, j < l.length → w.cell? ⟨b, off + j, none⟩ = some (.int .i64 (l.getD j 0))) :
    Calls Try.prog 46 #[.slice (some ⟨b, off, none⟩) l.length cap] w fun e w' => e = .returned (.tuple #[.int .i64 (sumV l), .int .i64 (sumE l)]) ∧ w = w' := by
  have HC : Hid (∀ j, j < l.length → w.cell? ⟨b, off + j, none⟩ = some (.int .i64 (l.getD j 0))) := hc
  clear hc
  go_enter Try.func46, Try.ntmps46
  go_wp2
  go_loop [4, 5] (fun s i => ∃ k : Nat, k ≤ l.length ∧ i = .int .i64 k ∧ s = .int .i64 (sumF (l.take k)) ∧ (l.take k).all okB = true) (fun _ i => l.length - (intOf i).toNat)
  case atStart => exact ⟨0, Nat.zero_le _, rfl, rfl, rfl⟩
  case round =>
    obtain ⟨k, hk, rfl, rfl, ho⟩ := hrel
    by_cases hlt : k < l.length
    · have HA := Lib.hid (all_snoc l k hlt)
      have HS := Lib.hid (sumF_snoc l k hlt)
      have HN := Lib.hid (fun h : okB (l.getD k 0) = false => sumE_bad (all_not hlt h))
      have hcell := HC.out k hlt
      have HO : Hid ((l.take k).all okB = true) := ho
      clear ho
      generalize l.getD k 0 = n at *
      rcases Bool.eq_false_or_eq_true (okB n) with hn | hn
      · go_wp2_with (first | (go_at_call 21; refine (rvalid_any _ _).mono ?_; rintro e w' ⟨rfl, rfl⟩))
        go_round
        case rel => exact ⟨k + 1, by omega, by go_num, by rw [HS.out], by rw [HA.out, HO.out, hn]; rfl⟩
        case measure => simp [intOf]; omega
      · have h2 := HN.out hn
        obtain ⟨e1, e2⟩ := h2
        go_wp2_with (first | (go_at_call 21; refine (rvalid_any _ _).mono ?_; rintro e w' ⟨rfl, rfl⟩))
        go_ret2
        exact ⟨by simp [e1, e2], rfl⟩
    · have hT := take_all l (show l.length ≤ k by omega)
      rw [hT] at ho
      obtain ⟨e1, e2⟩ := sumE_ok ho
      rw [hT]
      clear hT ho
      go_wp2_with (first | (go_at_call 78; refine (exact_any _ _).mono ?_; rintro e w' ⟨rfl, rfl⟩))
      go_ret2
      exact ⟨by simp [e1, e2], rfl⟩

theorem rsum_nil (a : Option Addr) (cap : Nat) (w : World) :
    Calls Try.prog 46 #[.slice a 0 cap] w fun e w' => e = .returned (.tuple #[.int .i64 (sumV []), .int .i64 (sumE [])]) ∧ w = w' := by
  have e1 : sumV [] = 0 := by decide
  have e2 : sumE [] = 0 := by decide
  have e3 : fitV 0 = 0 := by decide
  have e4 : fitE 0 = 0 := by decide
  go_enter Try.func46, Try.ntmps46
  go_wp2
  refine wp_loop_rounds 1 ?_
  rw [rounds_succ]
  go_wp2_with (first | (go_at_call 78; refine (exact_any _ _).mono ?_; rintro e w' ⟨rfl, rfl⟩))
  go_ret2
  exact ⟨by simp [e1, e2], rfl⟩

theorem rsum_any (v : Value) (l : List Int) (w : World) (h : IsInts w v l) :
    Calls Try.prog 46 #[v] w fun e w' => e = .returned (.tuple #[.int .i64 (sumV l), .int .i64 (sumE l)]) ∧ w = w' := by
  rcases h with ⟨a, cap, rfl, rfl⟩ | ⟨b, off, cap, rfl, hb, hl, hc, hw⟩
  · exact rsum_nil a cap w
  · exact rsum_at b off cap l w (by omega) hc

end Go.Proofs.Ythbajdpblgclpaa
