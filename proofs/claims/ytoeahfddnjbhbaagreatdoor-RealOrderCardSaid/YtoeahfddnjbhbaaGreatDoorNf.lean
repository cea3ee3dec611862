/- Layer 2: sums and differences of naturals, as the program makes them. -/
import Derived.Test.YtoeahfddnjbhbaaGreatDoorNe
import Derived.StillTailTactics
namespace Go.Proofs.YtoeahfddnjbhbaaGreatDoor
open Go.RowKit

set_option maxHeartbeats 2000000 in
theorem plus_any (n m : Nat) (w : World) :
    Calls Tryz.prog 120 #[.agg #[.int .u64 (L n 0), .int .u64 (L n 1), .int .u64 (L n 2), .int .u64 (L n 3), .int .u64 (L n 4), .int .u64 (L n 5)], .agg #[.int .u64 (L m 0), .int .u64 (L m 1), .int .u64 (L m 2), .int .u64 (L m 3), .int .u64 (L m 4), .int .u64 (L m 5)]] w fun e w' => e = .returned (.agg #[.int .u64 (L (n + m) 0), .int .u64 (L (n + m) 1), .int .u64 (L (n + m) 2), .int .u64 (L (n + m) 3), .int .u64 (L (n + m) 4), .int .u64 (L (n + m) 5)]) ∧ Ext w w' := by
  go_enter Tryz.func120, Tryz.ntmps120
  go_wp2
  go_loopw [5, 7] (fun c i wr => ∃ k : Nat, k ≤ 6 ∧ i = .int .i64 k ∧ c = .int .u64 (CA n m k) ∧ Six wr w.heap.size (mix ((n + m)) n k) ∧ Six wr (w.heap.size + 1) (L m) ∧ Six wr (w.heap.size + 1 + 1) (fun _ => 0) ∧ Ext w wr) (fun _ i _ => 6 - (intOf i).toNat)
  case atStart =>
    have s1 := (six_new w (L n) 124).of_eq (Y := mix ((n + m)) n 0) (fun j _ => mix_zero _ _ _)
    have s2 := six_new (w.alloc (.cells #[.int .u64 (L n 0), .int .u64 (L n 1), .int .u64 (L n 2), .int .u64 (L n 3), .int .u64 (L n 4), .int .u64 (L n 5)] 124)) (L m) 124
    have s3 := six_new ((w.alloc (.cells #[.int .u64 (L n 0), .int .u64 (L n 1), .int .u64 (L n 2), .int .u64 (L n 3), .int .u64 (L n 4), .int .u64 (L n 5)] 124)).alloc (.cells #[.int .u64 (L m 0), .int .u64 (L m 1), .int .u64 (L m 2), .int .u64 (L m 3), .int .u64 (L m 4), .int .u64 (L m 5)] 124)) (fun _ => 0) 124
    simp only [World.size_alloc] at s2 s3
    exact ⟨0, by omega, rfl, by rw [CA_zero]; rfl, (s1.later ((Ext.refl _).alloc _)).later ((Ext.refl _).alloc _), s2.later ((Ext.refl _).alloc _), s3, (((Ext.refl _).alloc _).alloc _).alloc _⟩
  case round =>
    obtain ⟨k, hk, rfl, rfl, hs, hm, hr, hx⟩ := hrel
    by_cases hlt : k < 6
    · have hc := hs.cell k hlt
      rw [mix_at] at hc
      have hf2 := hs.froz k
      have hc2 := hm.cell k hlt
      have A0 := add64 (L n k) (L m k) (CA n m k) (CA_le _ _ _)
      have hi : (k : Int) < 6 := by omega
      have hi0 : (0 : Int) ≤ k := by omega
      have S := Lib.hid hs
      have M := Lib.hid hm
      have R := Lib.hid hr
      have X := Lib.hid hx
      clear hs hm hr hx
      go_wp2
      go_region
      all_goals
        go_wp2
        go_roundw
        case rel => exact ⟨k + 1, by omega, by go_num, by rw [add_next], (S.out.set hlt (by rw [mix_new, add_place]) (fun j hj => mix_step _ _ _ _ hj)).drew, (M.out.other (by omega)).drew, (R.out.other (by omega)).drew, (X.out.setCell (Nat.le_refl _) _).drew⟩
        case measure => simp [intOf]; omega
    · have S := hs.of_eq (Y := L ((n + m))) (fun j hj => (mix_all (by omega)).symm)
      obtain ⟨c0, c1, c2, c3, c4, c5⟩ := S.cells
      have f0 := S.froz
      obtain ⟨d0, d1, d2, d3, d4, d5⟩ := hr.cells
      have g0 := hr.froz
      have X := Lib.hid hx
      clear hs hm hr hx S
      go_wp2
      refine bodyPost_ret (v := .agg #[.int .u64 (L (n + m) 0), .int .u64 (L (n + m) 1), .int .u64 (L (n + m) 2), .int .u64 (L (n + m) 3), .int .u64 (L (n + m) 4), .int .u64 (L (n + m) 5)]) ?_ rfl ⟨rfl, ?_⟩
      · simp [results, Tryz.results120, go_sem, d0, d1, d2, d3, d4, d5]
      · repeat (first | with_reducible exact X.out | with_reducible refine Ext.setCell ?_ (by first | (simp; done) | (simp; omega)) _)

set_option maxHeartbeats 2000000 in
theorem minus_any (d m : Nat) (w : World) :
    Calls Tryz.prog 146 #[.agg #[.int .u64 (L (d + m) 0), .int .u64 (L (d + m) 1), .int .u64 (L (d + m) 2), .int .u64 (L (d + m) 3), .int .u64 (L (d + m) 4), .int .u64 (L (d + m) 5)], .agg #[.int .u64 (L m 0), .int .u64 (L m 1), .int .u64 (L m 2), .int .u64 (L m 3), .int .u64 (L m 4), .int .u64 (L m 5)]] w fun e w' => e = .returned (.agg #[.int .u64 (L d 0), .int .u64 (L d 1), .int .u64 (L d 2), .int .u64 (L d 3), .int .u64 (L d 4), .int .u64 (L d 5)]) ∧ Ext w w' := by
  go_enter Tryz.func146, Tryz.ntmps146
  go_wp2
  go_loopw [5, 7] (fun c i wr => ∃ k : Nat, k ≤ 6 ∧ i = .int .i64 k ∧ c = .int .u64 (CA d m k) ∧ Six wr w.heap.size (mix (d) (d + m) k) ∧ Six wr (w.heap.size + 1) (L m) ∧ Six wr (w.heap.size + 1 + 1) (fun _ => 0) ∧ Ext w wr) (fun _ i _ => 6 - (intOf i).toNat)
  case atStart =>
    have s1 := (six_new w (L (d + m)) 124).of_eq (Y := mix (d) (d + m) 0) (fun j _ => mix_zero _ _ _)
    have s2 := six_new (w.alloc (.cells #[.int .u64 (L (d + m) 0), .int .u64 (L (d + m) 1), .int .u64 (L (d + m) 2), .int .u64 (L (d + m) 3), .int .u64 (L (d + m) 4), .int .u64 (L (d + m) 5)] 124)) (L m) 124
    have s3 := six_new ((w.alloc (.cells #[.int .u64 (L (d + m) 0), .int .u64 (L (d + m) 1), .int .u64 (L (d + m) 2), .int .u64 (L (d + m) 3), .int .u64 (L (d + m) 4), .int .u64 (L (d + m) 5)] 124)).alloc (.cells #[.int .u64 (L m 0), .int .u64 (L m 1), .int .u64 (L m 2), .int .u64 (L m 3), .int .u64 (L m 4), .int .u64 (L m 5)] 124)) (fun _ => 0) 124
    simp only [World.size_alloc] at s2 s3
    exact ⟨0, by omega, rfl, by rw [CA_zero]; rfl, (s1.later ((Ext.refl _).alloc _)).later ((Ext.refl _).alloc _), s2.later ((Ext.refl _).alloc _), s3, (((Ext.refl _).alloc _).alloc _).alloc _⟩
  case round =>
    obtain ⟨k, hk, rfl, rfl, hs, hm, hr, hx⟩ := hrel
    by_cases hlt : k < 6
    · have hc := hs.cell k hlt
      rw [mix_at] at hc
      have hf2 := hs.froz k
      have hc2 := hm.cell k hlt
      have A0 := sub64 (L (d + m) k) (L m k) (CA d m k) (CA_le _ _ _)
      have hi : (k : Int) < 6 := by omega
      have hi0 : (0 : Int) ≤ k := by omega
      have S := Lib.hid hs
      have M := Lib.hid hm
      have R := Lib.hid hr
      have X := Lib.hid hx
      clear hs hm hr hx
      go_wp2
      go_region
      all_goals
        go_wp2
        go_roundw
        case rel => exact ⟨k + 1, by omega, by go_num, by rw [sub_next], (S.out.set hlt (by rw [mix_new, sub_place]) (fun j hj => mix_step _ _ _ _ hj)).drew, (M.out.other (by omega)).drew, (R.out.other (by omega)).drew, (X.out.setCell (Nat.le_refl _) _).drew⟩
        case measure => simp [intOf]; omega
    · have S := hs.of_eq (Y := L (d)) (fun j hj => (mix_all (by omega)).symm)
      obtain ⟨c0, c1, c2, c3, c4, c5⟩ := S.cells
      have f0 := S.froz
      obtain ⟨d0, d1, d2, d3, d4, d5⟩ := hr.cells
      have g0 := hr.froz
      have X := Lib.hid hx
      clear hs hm hr hx S
      go_wp2
      refine bodyPost_ret (v := .agg #[.int .u64 (L d 0), .int .u64 (L d 1), .int .u64 (L d 2), .int .u64 (L d 3), .int .u64 (L d 4), .int .u64 (L d 5)]) ?_ rfl ⟨rfl, ?_⟩
      · simp [results, Tryz.results146, go_sem, d0, d1, d2, d3, d4, d5]
      · repeat (first | with_reducible exact X.out | with_reducible refine Ext.setCell ?_ (by first | (simp; done) | (simp; omega)) _)

end Go.Proofs.YtoeahfddnjbhbaaGreatDoor
