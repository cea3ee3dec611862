/- Layer 2: naturals shifted. -/
import Derived.Test.YtoeahfddnjbhbaaGreatDoorNi
namespace Go.Proofs.YtoeahfddnjbhbaaGreatDoor
open Go.RowKit

def p2 (k : Nat) : Nat := 2 ^ k
theorem p2_zero : p2 0 = 1 := rfl
theorem p2_add (a b : Nat) : p2 (a + b) = p2 a * p2 b := Nat.pow_add _ _ _
theorem p2_64 : p2 64 = B64 := by decide
theorem p2_lt {k : Nat} (h : k < 64) : p2 k < 18446744073709551616 :=
  Nat.lt_of_le_of_lt (Nat.pow_le_pow_right (by omega) (show k ≤ 63 by omega)) (by decide)
theorem p2_wrap {k : Nat} (h : k < 64) : IntKind.u64.wrap ((2 : Int) ^ k) = (p2 k : Int) := by
  have h1 := p2_lt h
  have e : (2 : Int) ^ k = ((p2 k : Nat) : Int) := by unfold p2; simp
  rw [e]; exact IntWalk.u64_in _ ⟨by omega, by omega⟩
theorem up_place (n j : Nat) : L (n * B64) j = if j = 0 then 0 else L n (j - 1) := by
  cases j with
  | zero => simp only [if_true]; exact limb_shift0 n
  | succ j => rw [if_neg (by omega)]; exact limb_shift B64_pos n j

set_option maxRecDepth 100000 in
set_option maxHeartbeats 2000000 in
theorem shifted_any (n p : Nat) (hp : p ≤ 9223372036854775807) (w : World) :
    Calls Tryz.prog 145 #[.agg #[.int .u64 (L n 0), .int .u64 (L n 1), .int .u64 (L n 2), .int .u64 (L n 3), .int .u64 (L n 4), .int .u64 (L n 5)], .int .i64 p] w fun e w' => e = .returned (.agg #[.int .u64 (L (n * p2 p) 0), .int .u64 (L (n * p2 p) 1), .int .u64 (L (n * p2 p) 2), .int .u64 (L (n * p2 p) 3), .int .u64 (L (n * p2 p) 4), .int .u64 (L (n * p2 p) 5)]) ∧ Ext w w' := by
  go_enter Tryz.func145, Tryz.ntmps145
  go_wp2
  go_loopw [1] (fun q wr => ∃ k : Nat, k ≤ p ∧ q = .int .i64 k ∧ Blk wr w.heap.size (L (n * p2 (p - k))) ∧ Six wr (w.heap.size + 1) (fun _ => 0) ∧ Ext w wr) (fun q _ => (intOf q).toNat)
  case atStart =>
    have s1 := (blk_new w (L n) 124).of_eq (Y := L (n * p2 (p - p))) (fun j _ => by rw [Nat.sub_self, p2_zero, Nat.mul_one])
    have s2 := six_new (w.alloc (.cells #[.int .u64 (L n 0), .int .u64 (L n 1), .int .u64 (L n 2), .int .u64 (L n 3), .int .u64 (L n 4), .int .u64 (L n 5)] 124)) (fun _ => 0) 124
    simp only [World.size_alloc] at s2
    exact ⟨p, by omega, rfl, s1.later ((Ext.refl _).alloc _), s2, ((Ext.refl _).alloc _).alloc _⟩
  case round =>
    obtain ⟨k, hk, rfl, hs, hr, hx⟩ := hrel
    by_cases hlt : 64 ≤ k
    · have hstep : n * p2 (p - k) * B64 = n * p2 (p - (k - 64)) := by
        rw [show p - (k - 64) = (p - k) + 64 by omega, p2_add, p2_64, Nat.mul_assoc]
      have ST := Lib.hid hstep
      clear hstep
      have S := Lib.hid hs
      have R := Lib.hid hr
      have X := Lib.hid hx
      clear hs hr hx
      go_wp2
      go_region_law (refine step_copy_run rfl (.tmp 9) (.tmp 10) 175 175 rfl _ _ rfl rfl (run_copy6 _ w.heap.size _ (S.out.later ((Ext.refl wr).drewN _)) _) ?_)
      all_goals
        have S2 := Lib.hid ((S.out.later ((Ext.refl wr).drewN 1)).row (upX (L (n * p2 (p - k)))))
        have R2 := Lib.hid ((R.out.later ((Ext.refl wr).drewN 1)).row (b := w.heap.size) (cs := six (upX (L (n * p2 (p - k))))) (by omega))
        have X2 := Lib.hid ((X.out.drewN 1).row (b := w.heap.size) (cs := six (upX (L (n * p2 (p - k))))) (Nat.le_refl _))
        generalize World.setRow (World.drewN wr 1) w.heap.size (six (upX (L (n * p2 (p - k))))) = w2 at *
        have S3 := S2.out.six
        obtain ⟨e0, e1, e2, e3, e4, e5⟩ := S3.cells
        have h0 := S3.froz
        clear S3
        go_wp2
        go_roundw
        case rel => exact ⟨k - 64, by omega, by rw [show ((k - 64 : Nat) : Int) = (k : Int) - 64 by omega], by rw [← ST.out]; exact S2.out.set0 (by rw [up_place]; rfl) (fun j h1 h2 => by rw [up_place, if_neg (by omega)]; unfold upX; rw [if_neg (by omega)]), R2.out.other (by omega), X2.out.setCell (Nat.le_refl _) _⟩
        case measure => simp [intOf]; omega
    · have hl := p2_lt (show k < 64 by omega)
      have hstep : n * p2 (p - k) * p2 k = n * p2 p := by
        rw [show p2 p = p2 (p - k + k) by rw [Nat.sub_add_cancel hk], p2_add, Nat.mul_assoc]
      have ST := Lib.hid hstep
      clear hstep
      obtain ⟨c0, c1, c2, c3, c4, c5⟩ := hs.six.cells
      have i0 : (0 : Int) ≤ k := by omega
      have i1 : (k : Int) < 64 := by omega
      have R := Lib.hid hr
      have X := Lib.hid hx
      clear hs hr hx
      go_wp2
      have hsh := p2_wrap (show k < 64 by omega)
      go_region_with ((go_at_call 119; refine (times_any _ _ hl _).mono ?_; rintro e w2 ⟨rfl, hx2⟩; have HX := (show Ext wr w2 from Ext.trans ((Ext.refl wr).drewN _) hx2); clear hx2; have S2 := R.out.later HX; obtain ⟨e0, e1, e2, e3, e4, e5⟩ := S2.cells; have h0 := S2.froz; have X2 := Lib.hid (X.out.trans HX); clear S2 HX))
      all_goals
        go_wp2
        refine bodyPost_ret (v := .agg #[.int .u64 (L (n * p2 p) 0), .int .u64 (L (n * p2 p) 1), .int .u64 (L (n * p2 p) 2), .int .u64 (L (n * p2 p) 3), .int .u64 (L (n * p2 p) 4), .int .u64 (L (n * p2 p) 5)]) ?_ rfl ⟨rfl, ?_⟩
        · rw [← ST.out]; simp [results, Tryz.results145, go_sem, e0, e1, e2, e3, e4, e5]
        · exact X2.out.put (by omega)

end Go.Proofs.YtoeahfddnjbhbaaGreatDoor
