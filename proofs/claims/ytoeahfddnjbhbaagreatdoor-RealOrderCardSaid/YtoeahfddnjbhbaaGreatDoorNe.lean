/- Layer 2: products and sums of naturals, as the program makes them. -/
import Derived.Test.YtoeahfddnjbhbaaGreatDoorProg
import Derived.Test.YtoeahfddnjbhbaaGreatDoorGa
import Derived.Test.YtoeahfddnjbhbaaGreatDoorNg
import Derived.WalkKit
import Derived.WalkSpells
import Derived.WalkLawsBesides
import Derived.Lib.Hide
import Derived.Outline
namespace Go.Proofs.YtoeahfddnjbhbaaGreatDoor
open Go.RowKit

theorem mul64 (x y : Nat) (hx : x < 18446744073709551616) (hy : y < 18446744073709551616) (w : World) :
    Calls Tryz.prog 142 #[.int .u64 x, .int .u64 y] w fun e w' => e = .returned (.tuple #[.int .u64 (mhi x y), .int .u64 (mlo x y)]) ∧ w = w' :=
  (Tryz.bits_Mul64 x y hx hy w).mono fun e w' ⟨h1, h2⟩ => ⟨h1, h2.symm⟩
theorem add64 (x y c : Nat) (hc : c ≤ 1) (w : World) :
    (callFunc 143 #[.int .u64 x, .int .u64 y, .int .u64 c]).run Tryz.prog w = .ok (.value (.tuple #[.int .u64 (asum x y c), .int .u64 (acar x y c)])) w :=
  Any7.bits_Add64 Tryz.lays7_25 x y c hc w
theorem add64_0 (x y : Nat) (w : World) :
    (callFunc 143 #[.int .u64 x, .int .u64 y, .int .u64 0]).run Tryz.prog w = .ok (.value (.tuple #[.int .u64 (asum x y 0), .int .u64 (acar x y 0)])) w :=
  Any7.bits_Add64 Tryz.lays7_25 x y 0 (by omega) w
theorem sub64 (x y c : Nat) (hc : c ≤ 1) (w : World) :
    (callFunc 163 #[.int .u64 x, .int .u64 y, .int .u64 c]).run Tryz.prog w = .ok (.value (.tuple #[.int .u64 (sdif x y c), .int .u64 (sbor x y c)])) w := by
  exact Any7.bits_Sub64 Tryz.lays7_26 x y c hc w

theorem mul_wrap (n f k : Nat) (hf : f < 18446744073709551616) : IntKind.u64.wrap ((mhi (L n k) f : Int) + (acar (mlo (L n k) f) (CM n f k) 0 : Int)) = (CM n f (k + 1) : Int) := by
  have h := mul_next n f k
  have h2 := CM_lt n f (k + 1) hf
  rw [← Int.natCast_add, h]
  exact IntWalk.u64_in _ ⟨by omega, by omega⟩

set_option maxHeartbeats 1000000 in
theorem times_any (n f : Nat) (hf : f < 18446744073709551616) (w : World) :
    Calls Tryz.prog 119 #[.agg #[.int .u64 (L n 0), .int .u64 (L n 1), .int .u64 (L n 2), .int .u64 (L n 3), .int .u64 (L n 4), .int .u64 (L n 5)], .int .u64 f] w fun e w' =>
      e = .returned (.agg #[.int .u64 (L (n * f) 0), .int .u64 (L (n * f) 1), .int .u64 (L (n * f) 2), .int .u64 (L (n * f) 3), .int .u64 (L (n * f) 4), .int .u64 (L (n * f) 5)]) ∧ Ext w w' := by
  go_enter Tryz.func119, Tryz.ntmps119
  go_wp2
  go_loopw [5, 11] (fun c i wr => ∃ k : Nat, k ≤ 6 ∧ i = .int .i64 k ∧ c = .int .u64 (CM n f k) ∧ Six wr w.heap.size (mix (n * f) n k) ∧ Six wr (w.heap.size + 1) (fun _ => 0) ∧ Ext w wr) (fun _ i _ => 6 - (intOf i).toNat)
  case atStart => exact ⟨0, by omega, rfl, by rw [CM_zero]; rfl, ((six_new w (L n) _).of_eq (fun j _ => mix_zero _ _ _)).later ((Ext.refl _).alloc _), by have := six_new (w.alloc (.cells #[.int .u64 (L n 0), .int .u64 (L n 1), .int .u64 (L n 2), .int .u64 (L n 3), .int .u64 (L n 4), .int .u64 (L n 5)] 124)) (fun _ => 0) 124; rw [World.size_alloc] at this; exact this, ((Ext.refl _).alloc _).alloc _⟩
  case round =>
    obtain ⟨k, hk, rfl, rfl, hs, hr, hx⟩ := hrel
    by_cases hlt : k < 6
    · have hc := hs.cell k hlt
      rw [mix_at] at hc
      have hf2 := hs.froz k
      have hl := L_lt n k
      have A0 := add64_0 (mlo (L n k) f) (CM n f k)
      have S := Lib.hid hs
      have R := Lib.hid hr
      have X := Lib.hid hx
      clear hs hr hx
      go_wp2_with (first | (go_at_call 142; refine (mul64 _ _ hl hf _).mono ?_; rintro e w' ⟨rfl, rfl⟩))
      go_roundw
      case rel => exact ⟨k + 1, by omega, by go_num, by rw [mul_wrap n f k hf], S.out.set hlt (by rw [mix_new, mul_place]) (fun j hj => mix_step _ _ _ _ hj), R.out.other (by omega), X.out.setCell (Nat.le_refl _) _⟩
      case measure => simp [intOf]; omega
    · have S := hs.of_eq (Y := L (n * f)) (fun j hj => (mix_all (by omega)).symm)
      obtain ⟨c0, c1, c2, c3, c4, c5⟩ := S.cells
      have f0 := S.froz
      obtain ⟨d0, d1, d2, d3, d4, d5⟩ := hr.cells
      have g0 := hr.froz
      have X := Lib.hid hx
      clear hs hr hx S
      go_wp2
      refine bodyPost_ret (v := .agg #[.int .u64 (L (n * f) 0), .int .u64 (L (n * f) 1), .int .u64 (L (n * f) 2), .int .u64 (L (n * f) 3), .int .u64 (L (n * f) 4), .int .u64 (L (n * f) 5)]) ?_ rfl ⟨rfl, ?_⟩
      · simp [results, Tryz.results119, go_sem, d0, d1, d2, d3, d4, d5]
      · repeat (first | with_reducible exact X.out | with_reducible refine Ext.setCell ?_ (by simp) _)
end Go.Proofs.YtoeahfddnjbhbaaGreatDoor
