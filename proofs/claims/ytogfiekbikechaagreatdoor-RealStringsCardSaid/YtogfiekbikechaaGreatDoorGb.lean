/-
  DERIVED: THE SHELF's CONTRACTS AT THIS DUMP, IN PLAIN WORDS (tools/lay-plain.mjs out of 'YtogfiekbikechaaGreatDoorNgTmp.lean', which tools/lay-shelf.mjs wrote): THE SAME DECLARATIONS UNDER THE SAME NAMES: 'import', 'namespace', 'open', 'def', 'theorem' AND NOTHING ELSE: no command of the shelf's: FOR A HAND-IN. Each laying: the table of numbers ('.._ren') and one theorem, a field a fact of the dump's own or the kernel's comparison; each contract: ONE APPLICATION.
-/
/- Layer 2: products and sums of naturals, as the program makes them. -/
/- Layer 2: sums and differences of naturals, as the program makes them. -/
/- Layer 2: powers of ten and of two. -/
/- Layer 2: the copy within a natural. -/
/- Layer 2: naturals shifted. -/
/- Layer 2: comparison and length of naturals: plain facts (no program here). -/
/- Layer 2: comparison and length of naturals, as the program makes them. -/
import Derived.Test.YtogfiekbikechaaGreatDoorProg
import Derived.Shelf.Bits.Mul64
import Derived.Shelf.Spec.BitsCarry
import Derived.Shelf.Strconv.Itoa0
import Derived.Test.YtogfiekbikechaaGreatDoorGa
import Derived.WalkKit
import Derived.WalkSpells
import Derived.WalkLawsBesides
import Derived.Lib.Hide
import Derived.Outline
import Derived.StillTailTactics
import Derived.Lib.LaidTab
import Derived.Deep.RegionHeld3
import Derived.Deep.RegionWith
import Derived.Lib.ItoaMem
import Derived.Laws.CopyOwn
import Derived.Deep.RegionLaw
import Derived.Deep.QuietTactic
import Derived.BigQuiet
namespace Go.Proofs
open Go.Shelf
def Tryz.lays129_ren : Go.Shelf.Ren := ⟨fun | 129 => 122 | n => n, fun | 53 => 64 | 3 => 3 | 4 => 4 | 46 => 63 | 5 => 5 | 9 => 9 | n => n, fun | n => n⟩
theorem Tryz.lays129 : Go.Proofs.Lays.n129 Tryz.prog Tryz.lays129_ren := {
  mixed := by kernel_rfl
  f129 := Tryz.func122.trans (congrArg some (by kernel_rfl))
  t3 := Tryz.underlying3
  a3 := Tryz.isAgg3
  z3 := Tryz.sizeOf3
  v3 := Tryz.zeroValue3
  t4 := Tryz.underlying4
  a4 := Tryz.isAgg4
  z4 := Tryz.sizeOf4
  v4 := Tryz.zeroValue4
  t5 := Tryz.underlying5
  a5 := Tryz.isAgg5
  z5 := Tryz.sizeOf5
  v5 := Tryz.zeroValue5
  t9 := Tryz.underlying9
  a9 := Tryz.isAgg9
  z9 := Tryz.sizeOf9
  v9 := Tryz.zeroValue9
  t46 := Tryz.underlying63
  a46 := Tryz.isAgg63
  z46 := Tryz.sizeOf63
  v46 := Tryz.zeroValue63
  t53 := Tryz.underlying64
  a53 := Tryz.isAgg64
  z53 := Tryz.sizeOf64
  v53 := Tryz.zeroValue64 }
/-- bits.Len64: "Len64 returns the minimum number of bits required to represent x; the result is 0 for x == 0.": IT RETURNS 'Lib.bitLen x'; the world is as it was. ('h0', 'h1': x is a uint64.) (LAID: no walk: one application.) -/
theorem Tryz.bits_Len64 (x : Int) (w : World) (h0 : 0 ≤ x) (h1 : x ≤ 18446744073709551615) :
    Calls Tryz.prog 122 #[.int .u64 x] w fun e w' => e = .returned (.int .i64 (Lib.bitLen x.toNat)) ∧ w' = w := Any.bits_Len64 Tryz.lays129 x w h0 h1
def Tryz.lays264_ren : Go.Shelf.Ren := ⟨fun | 264 => 130 | n => n, fun | 53 => 64 | 46 => 63 | n => n, fun | n => n⟩
theorem Tryz.lays264 : Go.Proofs.Lays.n264 Tryz.prog Tryz.lays264_ren := {
  mixed := by kernel_rfl
  f264 := Tryz.func130.trans (congrArg some (by kernel_rfl))
  t46 := Tryz.underlying63
  a46 := Tryz.isAgg63
  z46 := Tryz.sizeOf63
  v46 := Tryz.zeroValue63
  t53 := Tryz.underlying64
  a53 := Tryz.isAgg64
  z53 := Tryz.sizeOf64
  v53 := Tryz.zeroValue64 }
open Go.RowKit Go.Lib in
theorem Tryz.bits_Mul64 (x y : Nat) (hx : x < 18446744073709551616) (hy : y < 18446744073709551616) (w : World) :
    Calls Tryz.prog 130 #[.int .u64 x, .int .u64 y] w fun e w' => e = .returned (.tuple #[.int .u64 ((x * y / 18446744073709551616 : Nat) : Int), .int .u64 ((x * y % 18446744073709551616 : Nat) : Int)]) ∧ w' = w := Any.bits_Mul64 Tryz.lays264 x y hx hy w
def Tryz.lays7_25_ren : Go.Shelf.Ren := ⟨fun | 25 => 131 | n => n, fun | 22 => 64 | n => n, fun | n => n⟩
theorem Tryz.lays7_25 : Go.Proofs.Lays7.n25 Tryz.prog Tryz.lays7_25_ren := {
  mixed := by kernel_rfl
  f25 := Tryz.func131.trans (congrArg some (by kernel_rfl))
  t22 := Tryz.underlying64
  a22 := Tryz.isAgg64
  z22 := Tryz.sizeOf64
  v22 := Tryz.zeroValue64
  i22 := by kernel_rfl }
def Tryz.lays7_26_ren : Go.Shelf.Ren := ⟨fun | 26 => 151 | n => n, fun | 22 => 64 | n => n, fun | n => n⟩
theorem Tryz.lays7_26 : Go.Proofs.Lays7.n26 Tryz.prog Tryz.lays7_26_ren := {
  mixed := by kernel_rfl
  f26 := Tryz.func151.trans (congrArg some (by kernel_rfl))
  t22 := Tryz.underlying64
  a22 := Tryz.isAgg64
  z22 := Tryz.sizeOf64
  v22 := Tryz.zeroValue64
  i22 := by kernel_rfl }
end Go.Proofs

namespace Go.Proofs.YtogfiekbikechaaGreatDoor
open Go.RowKit

theorem mul64 (x y : Nat) (hx : x < 18446744073709551616) (hy : y < 18446744073709551616) (w : World) :
    Calls Tryz.prog 130 #[.int .u64 x, .int .u64 y] w fun e w' => e = .returned (.tuple #[.int .u64 (mhi x y), .int .u64 (mlo x y)]) ∧ w = w' :=
  (Tryz.bits_Mul64 x y hx hy w).mono fun _e _w' ⟨h1, h2⟩ => ⟨h1, h2.symm⟩
theorem add64 (x y c : Nat) (hc : c ≤ 1) (w : World) :
    (callFunc 131 #[.int .u64 x, .int .u64 y, .int .u64 c]).run Tryz.prog w = .ok (.value (.tuple #[.int .u64 (asum x y c), .int .u64 (acar x y c)])) w :=
  Any7.bits_Add64 Tryz.lays7_25 x y c hc w
theorem add64_0 (x y : Nat) (w : World) :
    (callFunc 131 #[.int .u64 x, .int .u64 y, .int .u64 0]).run Tryz.prog w = .ok (.value (.tuple #[.int .u64 (asum x y 0), .int .u64 (acar x y 0)])) w :=
  Any7.bits_Add64 Tryz.lays7_25 x y 0 (by omega) w
theorem sub64 (x y c : Nat) (hc : c ≤ 1) (w : World) :
    (callFunc 151 #[.int .u64 x, .int .u64 y, .int .u64 c]).run Tryz.prog w = .ok (.value (.tuple #[.int .u64 (sdif x y c), .int .u64 (sbor x y c)])) w := by
  exact Any7.bits_Sub64 Tryz.lays7_26 x y c hc w

theorem mul_wrap (n f k : Nat) (hf : f < 18446744073709551616) : IntKind.u64.wrap ((mhi (L n k) f : Int) + (acar (mlo (L n k) f) (CM n f k) 0 : Int)) = (CM n f (k + 1) : Int) := by
  have h := mul_next n f k
  have h2 := CM_lt n f (k + 1) hf
  rw [← Int.natCast_add, h]
  exact IntWalk.u64_in _ ⟨by omega, by omega⟩

set_option maxHeartbeats 1000000 in
theorem times_any (n f : Nat) (hf : f < 18446744073709551616) (w : World) :
    Calls Tryz.prog 107 #[.agg #[.int .u64 (L n 0), .int .u64 (L n 1), .int .u64 (L n 2), .int .u64 (L n 3), .int .u64 (L n 4), .int .u64 (L n 5)], .int .u64 f] w fun e w' =>
      e = .returned (.agg #[.int .u64 (L (n * f) 0), .int .u64 (L (n * f) 1), .int .u64 (L (n * f) 2), .int .u64 (L (n * f) 3), .int .u64 (L (n * f) 4), .int .u64 (L (n * f) 5)]) ∧ Ext w w' := by
  go_enter Tryz.func107, Tryz.ntmps107
  go_wp2
  go_loopw [5, 11] (fun c i wr => ∃ k : Nat, k ≤ 6 ∧ i = .int .i64 k ∧ c = .int .u64 (CM n f k) ∧ Six wr w.heap.size (mix (n * f) n k) ∧ Six wr (w.heap.size + 1) (fun _ => 0) ∧ Ext w wr) (fun _ i _ => 6 - (intOf i).toNat)
  case atStart => exact ⟨0, by omega, rfl, by rw [CM_zero]; rfl, ((six_new w (L n) _).of_eq (fun j _ => mix_zero _ _ _)).later ((Ext.refl _).alloc _), by have := six_new (w.alloc (.cells #[.int .u64 (L n 0), .int .u64 (L n 1), .int .u64 (L n 2), .int .u64 (L n 3), .int .u64 (L n 4), .int .u64 (L n 5)] 118)) (fun _ => 0) 118; rw [World.size_alloc] at this; exact this, ((Ext.refl _).alloc _).alloc _⟩
  case round =>
    obtain ⟨k, hk, rfl, rfl, hs, hr, hx⟩ := hrel
    by_cases hlt : k < 6
    · have hc := hs.cell k hlt
      rw [mix_at] at hc
      have hf2 := hs.froz k
      have hl := L_lt n k
      have A0 := add64_0 (mlo (L n k) f) (CM n f k)
      have S := Lib.hid hs
      have R := Lib.hid hr
      have X := Lib.hid hx
      clear hs hr hx
      go_wp2_with (first | (go_at_call 130; refine (mul64 _ _ hl hf _).mono ?_; rintro e w' ⟨rfl, rfl⟩))
      go_roundw
      case rel => exact ⟨k + 1, by omega, by go_num, by rw [mul_wrap n f k hf], S.out.set hlt (by rw [mix_new, mul_place]) (fun j hj => mix_step _ _ _ _ hj), R.out.other (by omega), X.out.setCell (Nat.le_refl _) _⟩
      case measure => simp [intOf]; omega
    · have S := hs.of_eq (Y := L (n * f)) (fun j hj => (mix_all (by omega)).symm)
      obtain ⟨c0, c1, c2, c3, c4, c5⟩ := S.cells
      have f0 := S.froz
      obtain ⟨d0, d1, d2, d3, d4, d5⟩ := hr.cells
      have g0 := hr.froz
      have X := Lib.hid hx
      clear hs hr hx S
      go_wp2
      refine bodyPost_ret (v := .agg #[.int .u64 (L (n * f) 0), .int .u64 (L (n * f) 1), .int .u64 (L (n * f) 2), .int .u64 (L (n * f) 3), .int .u64 (L (n * f) 4), .int .u64 (L (n * f) 5)]) ?_ rfl ⟨rfl, ?_⟩
      · simp [results, Tryz.results107, go_sem, d0, d1, d2, d3, d4, d5]
      · repeat (first | with_reducible exact X.out | with_reducible refine Ext.setCell ?_ (by simp) _)
end Go.Proofs.YtogfiekbikechaaGreatDoor

namespace Go.Proofs.YtogfiekbikechaaGreatDoor
open Go.RowKit

set_option maxHeartbeats 2000000 in
theorem plus_any (n m : Nat) (w : World) :
    Calls Tryz.prog 108 #[.agg #[.int .u64 (L n 0), .int .u64 (L n 1), .int .u64 (L n 2), .int .u64 (L n 3), .int .u64 (L n 4), .int .u64 (L n 5)], .agg #[.int .u64 (L m 0), .int .u64 (L m 1), .int .u64 (L m 2), .int .u64 (L m 3), .int .u64 (L m 4), .int .u64 (L m 5)]] w fun e w' => e = .returned (.agg #[.int .u64 (L (n + m) 0), .int .u64 (L (n + m) 1), .int .u64 (L (n + m) 2), .int .u64 (L (n + m) 3), .int .u64 (L (n + m) 4), .int .u64 (L (n + m) 5)]) ∧ Ext w w' := by
  go_enter Tryz.func108, Tryz.ntmps108
  go_wp2
  go_loopw [5, 7] (fun c i wr => ∃ k : Nat, k ≤ 6 ∧ i = .int .i64 k ∧ c = .int .u64 (CA n m k) ∧ Six wr w.heap.size (mix ((n + m)) n k) ∧ Six wr (w.heap.size + 1) (L m) ∧ Six wr (w.heap.size + 1 + 1) (fun _ => 0) ∧ Ext w wr) (fun _ i _ => 6 - (intOf i).toNat)
  case atStart =>
    have s1 := (six_new w (L n) 118).of_eq (Y := mix ((n + m)) n 0) (fun j _ => mix_zero _ _ _)
    have s2 := six_new (w.alloc (.cells #[.int .u64 (L n 0), .int .u64 (L n 1), .int .u64 (L n 2), .int .u64 (L n 3), .int .u64 (L n 4), .int .u64 (L n 5)] 118)) (L m) 118
    have s3 := six_new ((w.alloc (.cells #[.int .u64 (L n 0), .int .u64 (L n 1), .int .u64 (L n 2), .int .u64 (L n 3), .int .u64 (L n 4), .int .u64 (L n 5)] 118)).alloc (.cells #[.int .u64 (L m 0), .int .u64 (L m 1), .int .u64 (L m 2), .int .u64 (L m 3), .int .u64 (L m 4), .int .u64 (L m 5)] 118)) (fun _ => 0) 118
    simp only [World.size_alloc] at s2 s3
    exact ⟨0, by omega, rfl, by rw [CA_zero]; rfl, (s1.later ((Ext.refl _).alloc _)).later ((Ext.refl _).alloc _), s2.later ((Ext.refl _).alloc _), s3, (((Ext.refl _).alloc _).alloc _).alloc _⟩
  case round =>
    obtain ⟨k, hk, rfl, rfl, hs, hm, hr, hx⟩ := hrel
    by_cases hlt : k < 6
    · have hc := hs.cell k hlt
      rw [mix_at] at hc
      have hf2 := hs.froz k
      have hc2 := hm.cell k hlt
      have A0 := add64 (L n k) (L m k) (CA n m k) (CA_le _ _ _)
      have hi : (k : Int) < 6 := by omega
      have hi0 : (0 : Int) ≤ k := by omega
      have S := Lib.hid hs
      have M := Lib.hid hm
      have R := Lib.hid hr
      have X := Lib.hid hx
      clear hs hm hr hx
      go_wp2
      go_region
      all_goals
        go_wp2
        go_roundw
        case rel => exact ⟨k + 1, by omega, by go_num, by rw [add_next], (S.out.set hlt (by rw [mix_new, add_place]) (fun j hj => mix_step _ _ _ _ hj)).drew, (M.out.other (by omega)).drew, (R.out.other (by omega)).drew, (X.out.setCell (Nat.le_refl _) _).drew⟩
        case measure => simp [intOf]; omega
    · have S := hs.of_eq (Y := L ((n + m))) (fun j hj => (mix_all (by omega)).symm)
      obtain ⟨c0, c1, c2, c3, c4, c5⟩ := S.cells
      have f0 := S.froz
      obtain ⟨d0, d1, d2, d3, d4, d5⟩ := hr.cells
      have g0 := hr.froz
      have X := Lib.hid hx
      clear hs hm hr hx S
      go_wp2
      refine bodyPost_ret (v := .agg #[.int .u64 (L (n + m) 0), .int .u64 (L (n + m) 1), .int .u64 (L (n + m) 2), .int .u64 (L (n + m) 3), .int .u64 (L (n + m) 4), .int .u64 (L (n + m) 5)]) ?_ rfl ⟨rfl, ?_⟩
      · simp [results, Tryz.results108, go_sem, d0, d1, d2, d3, d4, d5]
      · repeat (first | with_reducible exact X.out | with_reducible refine Ext.setCell ?_ (by first | (simp; done) | (simp; omega)) _)

set_option maxHeartbeats 2000000 in
theorem minus_any (d m : Nat) (w : World) :
    Calls Tryz.prog 134 #[.agg #[.int .u64 (L (d + m) 0), .int .u64 (L (d + m) 1), .int .u64 (L (d + m) 2), .int .u64 (L (d + m) 3), .int .u64 (L (d + m) 4), .int .u64 (L (d + m) 5)], .agg #[.int .u64 (L m 0), .int .u64 (L m 1), .int .u64 (L m 2), .int .u64 (L m 3), .int .u64 (L m 4), .int .u64 (L m 5)]] w fun e w' => e = .returned (.agg #[.int .u64 (L d 0), .int .u64 (L d 1), .int .u64 (L d 2), .int .u64 (L d 3), .int .u64 (L d 4), .int .u64 (L d 5)]) ∧ Ext w w' := by
  go_enter Tryz.func134, Tryz.ntmps134
  go_wp2
  go_loopw [5, 7] (fun c i wr => ∃ k : Nat, k ≤ 6 ∧ i = .int .i64 k ∧ c = .int .u64 (CA d m k) ∧ Six wr w.heap.size (mix (d) (d + m) k) ∧ Six wr (w.heap.size + 1) (L m) ∧ Six wr (w.heap.size + 1 + 1) (fun _ => 0) ∧ Ext w wr) (fun _ i _ => 6 - (intOf i).toNat)
  case atStart =>
    have s1 := (six_new w (L (d + m)) 118).of_eq (Y := mix (d) (d + m) 0) (fun j _ => mix_zero _ _ _)
    have s2 := six_new (w.alloc (.cells #[.int .u64 (L (d + m) 0), .int .u64 (L (d + m) 1), .int .u64 (L (d + m) 2), .int .u64 (L (d + m) 3), .int .u64 (L (d + m) 4), .int .u64 (L (d + m) 5)] 118)) (L m) 118
    have s3 := six_new ((w.alloc (.cells #[.int .u64 (L (d + m) 0), .int .u64 (L (d + m) 1), .int .u64 (L (d + m) 2), .int .u64 (L (d + m) 3), .int .u64 (L (d + m) 4), .int .u64 (L (d + m) 5)] 118)).alloc (.cells #[.int .u64 (L m 0), .int .u64 (L m 1), .int .u64 (L m 2), .int .u64 (L m 3), .int .u64 (L m 4), .int .u64 (L m 5)] 118)) (fun _ => 0) 118
    simp only [World.size_alloc] at s2 s3
    exact ⟨0, by omega, rfl, by rw [CA_zero]; rfl, (s1.later ((Ext.refl _).alloc _)).later ((Ext.refl _).alloc _), s2.later ((Ext.refl _).alloc _), s3, (((Ext.refl _).alloc _).alloc _).alloc _⟩
  case round =>
    obtain ⟨k, hk, rfl, rfl, hs, hm, hr, hx⟩ := hrel
    by_cases hlt : k < 6
    · have hc := hs.cell k hlt
      rw [mix_at] at hc
      have hf2 := hs.froz k
      have hc2 := hm.cell k hlt
      have A0 := sub64 (L (d + m) k) (L m k) (CA d m k) (CA_le _ _ _)
      have hi : (k : Int) < 6 := by omega
      have hi0 : (0 : Int) ≤ k := by omega
      have S := Lib.hid hs
      have M := Lib.hid hm
      have R := Lib.hid hr
      have X := Lib.hid hx
      clear hs hm hr hx
      go_wp2
      go_region
      all_goals
        go_wp2
        go_roundw
        case rel => exact ⟨k + 1, by omega, by go_num, by rw [sub_next], (S.out.set hlt (by rw [mix_new, sub_place]) (fun j hj => mix_step _ _ _ _ hj)).drew, (M.out.other (by omega)).drew, (R.out.other (by omega)).drew, (X.out.setCell (Nat.le_refl _) _).drew⟩
        case measure => simp [intOf]; omega
    · have S := hs.of_eq (Y := L (d)) (fun j hj => (mix_all (by omega)).symm)
      obtain ⟨c0, c1, c2, c3, c4, c5⟩ := S.cells
      have f0 := S.froz
      obtain ⟨d0, d1, d2, d3, d4, d5⟩ := hr.cells
      have g0 := hr.froz
      have X := Lib.hid hx
      clear hs hm hr hx S
      go_wp2
      refine bodyPost_ret (v := .agg #[.int .u64 (L d 0), .int .u64 (L d 1), .int .u64 (L d 2), .int .u64 (L d 3), .int .u64 (L d 4), .int .u64 (L d 5)]) ?_ rfl ⟨rfl, ?_⟩
      · simp [results, Tryz.results134, go_sem, d0, d1, d2, d3, d4, d5]
      · repeat (first | with_reducible exact X.out | with_reducible refine Ext.setCell ?_ (by first | (simp; done) | (simp; omega)) _)

end Go.Proofs.YtogfiekbikechaaGreatDoor

namespace Go.Proofs.YtogfiekbikechaaGreatDoor
open Go.RowKit

/-- The program's table of powers of ten lies as its initialiser lays it. -/
def PowR (w : World) : Prop := Lib.TabIs Tryz.prog w "manorboy/real.powersOf10" .u64 Lib.pow10Tab
theorem PowR.later {w w' : World} (h : PowR w) (hx : Ext w w') : PowR w' := by
  unfold PowR Lib.TabIs World.var? at *
  cases hg : Tryz.prog.globalNamed "manorboy/real.powersOf10" with
  | none => simp [hg] at h
  | some g =>
    simp only [hg, Option.bind_some] at h ⊢
    have hlt : g < w.heap.size := by
      rcases Nat.lt_or_ge g w.heap.size with h' | h'
      · exact h'
      · rw [Array.getElem?_eq_none h'] at h; simp at h
    rw [hx.bel.block g hlt]
    exact h
def tp (q : Nat) : Nat := 10 ^ q
theorem tp_zero : tp 0 = 1 := rfl
theorem tp_add (a b : Nat) : tp (a + b) = tp a * tp b := Nat.pow_add _ _ _
theorem pow_tab : ∀ p : Fin 20, Lib.pow10Tab.getD p.val 0 = ((10 ^ p.val : Nat) : Int) := by decide +kernel
theorem PowR.cell {w : World} (h : PowR w) (p : Nat) (hp : p < 20) : w.cell? ⟨0, p, none⟩ = some (.int .u64 (tp p)) := by
  have := Lib.TabIs.cell h (g := 0) (by kernel_rfl) p (by simpa [Lib.pow10Tab] using hp)
  rw [this, pow_tab ⟨p, hp⟩]; rfl
theorem pow_lt (p : Nat) (hp : p < 20) : tp p < 18446744073709551616 :=
  Nat.lt_of_le_of_lt (Nat.pow_le_pow_right (by omega) (show p ≤ 19 by omega)) (by decide)

set_option maxHeartbeats 2000000 in
theorem timesPower_any (n p : Nat) (hp : p ≤ 9223372036854775807) (w : World) (ht : PowR w) :
    Calls Tryz.prog 109 #[.agg #[.int .u64 (L n 0), .int .u64 (L n 1), .int .u64 (L n 2), .int .u64 (L n 3), .int .u64 (L n 4), .int .u64 (L n 5)], .int .i64 p] w fun e w' => e = .returned (.agg #[.int .u64 (L (n * tp p) 0), .int .u64 (L (n * tp p) 1), .int .u64 (L (n * tp p) 2), .int .u64 (L (n * tp p) 3), .int .u64 (L (n * tp p) 4), .int .u64 (L (n * tp p) 5)]) ∧ Ext w w' := by
  have T := Lib.hid ht
  clear ht
  go_enter Tryz.func109, Tryz.ntmps109
  go_wp2
  go_loopw [1] (fun q wr => ∃ k : Nat, k ≤ p ∧ q = .int .i64 k ∧ Six wr w.heap.size (L (n * tp (p - k))) ∧ Six wr (w.heap.size + 1) (fun _ => 0) ∧ Ext w wr) (fun q _ => (intOf q).toNat)
  case atStart =>
    have s1 := (six_new w (L n) 118).of_eq (Y := L (n * tp (p - p))) (fun j _ => by rw [Nat.sub_self, tp_zero, Nat.mul_one])
    have s2 := six_new (w.alloc (.cells #[.int .u64 (L n 0), .int .u64 (L n 1), .int .u64 (L n 2), .int .u64 (L n 3), .int .u64 (L n 4), .int .u64 (L n 5)] 118)) (fun _ => 0) 118
    simp only [World.size_alloc] at s2
    exact ⟨p, by omega, rfl, s1.later ((Ext.refl _).alloc _), s2, ((Ext.refl _).alloc _).alloc _⟩
  case round =>
    obtain ⟨k, hk, rfl, hs, hr, hx⟩ := hrel
    have hT := T.out.later hx
    by_cases hlt : 19 < k
    · have hc := hT.cell 19 (by omega)
      have hl := pow_lt 19 (by omega)
      have hstep : n * tp (p - k) * tp 19 = n * tp (p - (k - 19)) := by
        rw [show p - (k - 19) = (p - k) + 19 by omega, tp_add, Nat.mul_assoc]
      have ST := Lib.hid hstep
      clear hstep
      obtain ⟨c0, c1, c2, c3, c4, c5⟩ := hs.cells
      have f0 := hs.froz
      have S := Lib.hid hs
      have R := Lib.hid hr
      have X := Lib.hid hx
      clear hs hr hx hT
      go_wp2
      go_region_with ((go_at_call 107; refine (times_any _ _ hl _).mono ?_; rintro e w2 ⟨rfl, hx2⟩; have HX := (show Ext wr w2 from Ext.trans ((Ext.refl wr).drewN _) hx2); clear hx2; have S2 := S.out.later HX; obtain ⟨e0, e1, e2, e3, e4, e5⟩ := S2.cells; have h0 := S2.froz; have S3 := Lib.hid S2; have R2 := Lib.hid (R.out.later HX); have X2 := Lib.hid (X.out.trans HX); clear S2 HX))
      all_goals
        go_wp2
        go_roundw
        case rel => exact ⟨k - 19, by omega, by rw [show ((k - 19 : Nat) : Int) = (k : Int) - 19 by omega], by rw [← ST.out]; exact S3.out.put _, R2.out.put_other (by omega), X2.out.put (Nat.le_refl _)⟩
        case measure => simp [intOf]; omega
    · have hc := hT.cell k (by omega)
      have hl := pow_lt k (by omega)
      have hstep : n * tp (p - k) * tp k = n * tp p := by
        rw [show tp p = tp (p - k + k) by rw [Nat.sub_add_cancel hk], tp_add, Nat.mul_assoc]
      have ST := Lib.hid hstep
      clear hstep
      obtain ⟨c0, c1, c2, c3, c4, c5⟩ := hs.cells
      have i0 : (0 : Int) ≤ k := by omega
      have i1 : (k : Int) < 20 := by omega
      have R := Lib.hid hr
      have X := Lib.hid hx
      clear hs hr hx hT
      go_wp2
      go_region_with ((go_at_call 107; refine (times_any _ _ hl _).mono ?_; rintro e w2 ⟨rfl, hx2⟩; have HX := (show Ext wr w2 from Ext.trans ((Ext.refl wr).drewN _) hx2); clear hx2; have S2 := R.out.later HX; obtain ⟨e0, e1, e2, e3, e4, e5⟩ := S2.cells; have h0 := S2.froz; have X2 := Lib.hid (X.out.trans HX); clear S2 HX))
      all_goals
        go_wp2
        refine bodyPost_ret (v := .agg #[.int .u64 (L (n * tp p) 0), .int .u64 (L (n * tp p) 1), .int .u64 (L (n * tp p) 2), .int .u64 (L (n * tp p) 3), .int .u64 (L (n * tp p) 4), .int .u64 (L (n * tp p) 5)]) ?_ rfl ⟨rfl, ?_⟩
        · rw [← ST.out]; simp [results, Tryz.results109, go_sem, e0, e1, e2, e3, e4, e5]
        · exact X2.out.put (by omega)

end Go.Proofs.YtogfiekbikechaaGreatDoor

namespace Go.Proofs.YtogfiekbikechaaGreatDoor
open Go.RowKit

theorem run_copy6 (w : World) (b : Nat) (X : Nat → Nat) (h : Blk w b X) (ty : TypeId) :
    (Builtin.copy_ #[169, 169] ty #[.slice (some ⟨b, 1, none⟩) 5 5, .slice (some ⟨b, 0, none⟩) 6 6]).run Tryz.prog w = .ok (goInt 5) (w.setRow b (six (upX X))) := by
  have hs := h.six
  obtain ⟨T, hh⟩ := h
  have := run_copy_row (P := Tryz.prog) w 169 169 ty 64 b 1 5 5 ⟨b, 0, none⟩ 6 6 (six X) T [.int .u64 (X 0), .int .u64 (X 1), .int .u64 (X 2), .int .u64 (X 3), .int .u64 (X 4)]
    Tryz.underlying169 (by kernel_rfl) hh rfl (fun j v hj => by
      have hj5 : j < 5 := by
        rcases Nat.lt_or_ge j 5 with h | h
        · exact h
        · rw [List.getElem?_eq_none (by simpa using h)] at hj; cases hj
      have := hs.cell j (by omega)
      have e : (⟨b, 0, none⟩ : Addr).add j = ⟨b, j, none⟩ := by simp [Addr.add]; try omega
      rw [e, this]
      have : j = 0 ∨ j = 1 ∨ j = 2 ∨ j = 3 ∨ j = 4 := by omega
      rcases this with rfl | rfl | rfl | rfl | rfl <;> simpa using hj) (by simp [six]) (by simp [Value.oneCell'])
  exact this

theorem step_copy_run {P : Program} {ops : Array Oper} {o : Oper} {a : Act} {w : World} {K : Act → World → Prop} {Q : Exit → Act → World → Prop} {E : Prop} (hgd : o.guard = none) (d s : Operand) (t t' : TypeId)
    (ho : o.op = .call { callee := .builtin .copy, args := #[d, s], argTypes := #[t, t'] }) (v u : Value) (hd : a.eval d = v) (hs : a.eval s = u) {v' : Value} {w' : World}
    (hr : (Builtin.copy_ #[t, t'] o.type #[v, u]).run P w = .ok v' w') (h : K (a.put o.dst v') w') :
    if Region.wanted o (yielded ops a.tmps) = true then Oper.wp P o a w K Q else E := by
  have hw : Region.wanted o (yielded ops a.tmps) = true := by simp [Region.wanted, hgd]
  rw [if_pos hw]
  exact Lib.wp_copy_run w d s t t' ho v u hd hs hr h
end Go.Proofs.YtogfiekbikechaaGreatDoor

namespace Go.Proofs.YtogfiekbikechaaGreatDoor
open Go.RowKit

def p2 (k : Nat) : Nat := 2 ^ k
theorem p2_zero : p2 0 = 1 := rfl
theorem p2_add (a b : Nat) : p2 (a + b) = p2 a * p2 b := Nat.pow_add _ _ _
theorem p2_64 : p2 64 = B64 := by decide
theorem p2_lt {k : Nat} (h : k < 64) : p2 k < 18446744073709551616 :=
  Nat.lt_of_le_of_lt (Nat.pow_le_pow_right (by omega) (show k ≤ 63 by omega)) (by decide)
theorem p2_wrap {k : Nat} (h : k < 64) : IntKind.u64.wrap ((2 : Int) ^ k) = (p2 k : Int) := by
  have h1 := p2_lt h
  have e : (2 : Int) ^ k = ((p2 k : Nat) : Int) := by unfold p2; simp
  rw [e]; exact IntWalk.u64_in _ ⟨by omega, by omega⟩
theorem up_place (n j : Nat) : L (n * B64) j = if j = 0 then 0 else L n (j - 1) := by
  cases j with
  | zero => simp only [if_true]; exact limb_shift0 n
  | succ j => rw [if_neg (by omega)]; exact limb_shift B64_pos n j

set_option maxRecDepth 100000 in
set_option maxHeartbeats 2000000 in
theorem shifted_any (n p : Nat) (hp : p ≤ 9223372036854775807) (w : World) :
    Calls Tryz.prog 133 #[.agg #[.int .u64 (L n 0), .int .u64 (L n 1), .int .u64 (L n 2), .int .u64 (L n 3), .int .u64 (L n 4), .int .u64 (L n 5)], .int .i64 p] w fun e w' => e = .returned (.agg #[.int .u64 (L (n * p2 p) 0), .int .u64 (L (n * p2 p) 1), .int .u64 (L (n * p2 p) 2), .int .u64 (L (n * p2 p) 3), .int .u64 (L (n * p2 p) 4), .int .u64 (L (n * p2 p) 5)]) ∧ Ext w w' := by
  go_enter Tryz.func133, Tryz.ntmps133
  go_wp2
  go_loopw [1] (fun q wr => ∃ k : Nat, k ≤ p ∧ q = .int .i64 k ∧ Blk wr w.heap.size (L (n * p2 (p - k))) ∧ Six wr (w.heap.size + 1) (fun _ => 0) ∧ Ext w wr) (fun q _ => (intOf q).toNat)
  case atStart =>
    have s1 := (blk_new w (L n) 118).of_eq (Y := L (n * p2 (p - p))) (fun j _ => by rw [Nat.sub_self, p2_zero, Nat.mul_one])
    have s2 := six_new (w.alloc (.cells #[.int .u64 (L n 0), .int .u64 (L n 1), .int .u64 (L n 2), .int .u64 (L n 3), .int .u64 (L n 4), .int .u64 (L n 5)] 118)) (fun _ => 0) 118
    simp only [World.size_alloc] at s2
    exact ⟨p, by omega, rfl, s1.later ((Ext.refl _).alloc _), s2, ((Ext.refl _).alloc _).alloc _⟩
  case round =>
    obtain ⟨k, hk, rfl, hs, hr, hx⟩ := hrel
    by_cases hlt : 64 ≤ k
    · have hstep : n * p2 (p - k) * B64 = n * p2 (p - (k - 64)) := by
        rw [show p - (k - 64) = (p - k) + 64 by omega, p2_add, p2_64, Nat.mul_assoc]
      have ST := Lib.hid hstep
      clear hstep
      have S := Lib.hid hs
      have R := Lib.hid hr
      have X := Lib.hid hx
      clear hs hr hx
      go_wp2
      go_region_law (refine step_copy_run rfl (.tmp 9) (.tmp 10) 169 169 rfl _ _ rfl rfl (run_copy6 _ w.heap.size _ (S.out.later ((Ext.refl wr).drewN _)) _) ?_)
      all_goals
        have S2 := Lib.hid ((S.out.later ((Ext.refl wr).drewN 1)).row (upX (L (n * p2 (p - k)))))
        have R2 := Lib.hid ((R.out.later ((Ext.refl wr).drewN 1)).row (b := w.heap.size) (cs := six (upX (L (n * p2 (p - k))))) (by omega))
        have X2 := Lib.hid ((X.out.drewN 1).row (b := w.heap.size) (cs := six (upX (L (n * p2 (p - k))))) (Nat.le_refl _))
        generalize World.setRow (World.drewN wr 1) w.heap.size (six (upX (L (n * p2 (p - k))))) = w2 at *
        have S3 := S2.out.six
        obtain ⟨e0, e1, e2, e3, e4, e5⟩ := S3.cells
        have h0 := S3.froz
        clear S3
        go_wp2
        go_roundw
        case rel => exact ⟨k - 64, by omega, by rw [show ((k - 64 : Nat) : Int) = (k : Int) - 64 by omega], by rw [← ST.out]; exact S2.out.set0 (by rw [up_place]; rfl) (fun j h1 h2 => by rw [up_place, if_neg (by omega)]; unfold upX; rw [if_neg (by omega)]), R2.out.other (by omega), X2.out.setCell (Nat.le_refl _) _⟩
        case measure => simp [intOf]; omega
    · have hl := p2_lt (show k < 64 by omega)
      have hstep : n * p2 (p - k) * p2 k = n * p2 p := by
        rw [show p2 p = p2 (p - k + k) by rw [Nat.sub_add_cancel hk], p2_add, Nat.mul_assoc]
      have ST := Lib.hid hstep
      clear hstep
      obtain ⟨c0, c1, c2, c3, c4, c5⟩ := hs.six.cells
      have i0 : (0 : Int) ≤ k := by omega
      have i1 : (k : Int) < 64 := by omega
      have R := Lib.hid hr
      have X := Lib.hid hx
      clear hs hr hx
      go_wp2
      have hsh := p2_wrap (show k < 64 by omega)
      go_region_with ((go_at_call 107; refine (times_any _ _ hl _).mono ?_; rintro e w2 ⟨rfl, hx2⟩; have HX := (show Ext wr w2 from Ext.trans ((Ext.refl wr).drewN _) hx2); clear hx2; have S2 := R.out.later HX; obtain ⟨e0, e1, e2, e3, e4, e5⟩ := S2.cells; have h0 := S2.froz; have X2 := Lib.hid (X.out.trans HX); clear S2 HX))
      all_goals
        go_wp2
        refine bodyPost_ret (v := .agg #[.int .u64 (L (n * p2 p) 0), .int .u64 (L (n * p2 p) 1), .int .u64 (L (n * p2 p) 2), .int .u64 (L (n * p2 p) 3), .int .u64 (L (n * p2 p) 4), .int .u64 (L (n * p2 p) 5)]) ?_ rfl ⟨rfl, ?_⟩
        · rw [← ST.out]; simp [results, Tryz.results133, go_sem, e0, e1, e2, e3, e4, e5]
        · exact X2.out.put (by omega)

end Go.Proofs.YtogfiekbikechaaGreatDoor

namespace Go.Proofs.YtogfiekbikechaaGreatDoor

def N6 : Nat := B64 ^ 6
theorem N6_eq : N6 = 2 ^ 384 := by decide +kernel
def cmpN (n m : Nat) : Int := if n < m then -1 else if m < n then 1 else 0
theorem eq_of_places {n m : Nat} (hn : n < N6) (hm : m < N6) (h : ∀ j, j < 6 → L n j = L m j) : n = m := by
  have := limbs_inj B64_pos 6 n m h
  unfold N6 at hn hm
  rwa [Nat.mod_eq_of_lt hn, Nat.mod_eq_of_lt hm] at this
theorem cmp_at {n m q : Nat} (hn : n < N6) (hm : m < N6) (hq : q < 6) (he : ∀ j, q < j → j < 6 → L n j = L m j) (h : L n q ≠ L m q) : cmpN n m = cmpN (L n q) (L m q) := by
  rcases Nat.lt_or_gt_of_ne h with h1 | h1
  · have := limb_lt_at B64_pos hn hm hq he h1
    unfold cmpN; rw [if_pos this, if_pos h1]
  · have := limb_lt_at B64_pos hm hn hq (fun j a b => (he j a b).symm) h1
    unfold cmpN; rw [if_neg (by omega), if_pos this, if_neg (by omega), if_pos h1]
theorem cmp_same (n : Nat) : cmpN n n = 0 := by unfold cmpN; simp

theorem nb_of {n k : Nat} (h1 : 2 ^ k ≤ n) (h2 : n < 2 ^ (k + 1)) : nb n = k + 1 := by
  have hp : 0 < 2 ^ k := Nat.pow_pos (by omega)
  unfold nb
  rw [if_neg (by omega)]
  have a := Nat.log2_self_le (n := n) (by omega)
  have b := Nat.lt_log2_self (n := n)
  have c1 : k < n.log2 + 1 := (Nat.pow_lt_pow_iff_right (by omega)).1 (Nat.lt_of_le_of_lt h1 b)
  have c2 : n.log2 < k + 1 := (Nat.pow_lt_pow_iff_right (by omega)).1 (Nat.lt_of_le_of_lt a h2)
  omega
theorem nb_zero : nb 0 = 0 := rfl
theorem nb_lo {n : Nat} (h : n ≠ 0) : 1 ≤ nb n ∧ 2 ^ (nb n - 1) ≤ n ∧ n < 2 ^ nb n := by
  unfold nb; rw [if_neg h]
  exact ⟨by omega, by simpa using Nat.log2_self_le h, Nat.lt_log2_self⟩
theorem nb_bitLen {x : Nat} (h : x < 18446744073709551616) : Lib.bitLen x = nb x := by
  by_cases h0 : x = 0
  · subst h0; rw [nb_zero]; exact Lib.bitLenAux_zero 64
  · obtain ⟨a, b, c⟩ := Lib.bitLenAux_bounds 64 x h h0
    have e : nb x = Lib.bitLenAux 64 x - 1 + 1 := nb_of b (by rw [Nat.sub_add_cancel a]; exact c)
    unfold Lib.bitLen; omega
theorem low_of {n q : Nat} (hn : n < N6) (hq : q < 6) (hz : ∀ j, q < j → j < 6 → L n j = 0) : n % B64 ^ (q + 1) = n := by
  have hlt : n % B64 ^ (q + 1) < B64 ^ (q + 1) := Nat.mod_lt _ (Nat.pow_pos B64_pos)
  have hlt6 : n % B64 ^ (q + 1) < N6 := Nat.lt_of_lt_of_le hlt (Nat.pow_le_pow_right B64_pos (by omega))
  refine eq_of_places hlt6 hn fun j hj => ?_
  by_cases h : j < q + 1
  · exact limb_mod B64_pos n h
  · rw [hz j (by omega) hj]
    unfold L limb
    rw [Nat.div_eq_of_lt (Nat.lt_of_lt_of_le hlt (Nat.pow_le_pow_right B64_pos (by omega)))]
    rfl
theorem nb_at {n q : Nat} (hn : n < N6) (hq : q < 6) (hz : ∀ j, q < j → j < 6 → L n j = 0) (h : L n q ≠ 0) : nb n = 64 * q + nb (L n q) := by
  have h1 := low_of hn hq hz
  rw [mod_succ_at] at h1
  have hp : 0 < B64 ^ q := Nat.pow_pos B64_pos
  have h2 := Nat.mod_lt n hp
  obtain ⟨a, b, c⟩ := nb_lo h
  have e : B64 ^ q = 2 ^ (64 * q) := by rw [show B64 = 2 ^ 64 by decide, ← Nat.pow_mul]
  have hL : limb B64 n q = L n q := rfl
  rw [hL] at h1
  generalize L n q = x at *
  generalize hy : n % B64 ^ q = y at *
  have g1 : 2 ^ (64 * q + (nb x - 1)) ≤ n := by
    rw [Nat.pow_add, ← e]
    calc B64 ^ q * 2 ^ (nb x - 1) ≤ B64 ^ q * x := Nat.mul_le_mul_left _ b
      _ ≤ n := by omega
  have g2 : n < 2 ^ (64 * q + (nb x - 1) + 1) := by
    rw [show 64 * q + (nb x - 1) + 1 = 64 * q + nb x by omega, Nat.pow_add, ← e]
    calc n < B64 ^ q * (x + 1) := by rw [Nat.mul_succ]; omega
      _ ≤ B64 ^ q * 2 ^ nb x := Nat.mul_le_mul_left _ c
  rw [nb_of g1 g2]; omega
theorem zero_of_places {n : Nat} (hn : n < N6) (h : ∀ j, j < 6 → L n j = 0) : n = 0 :=
  eq_of_places hn (by decide +kernel) fun j hj => by rw [h j hj]; exact (limb_zero _ _).symm
theorem nb_le64 {x : Nat} (h : x < 18446744073709551616) : nb x ≤ 64 := by
  by_cases h0 : x = 0
  · subst h0; rw [nb_zero]; omega
  · obtain ⟨a, b, c⟩ := nb_lo h0
    have : 2 ^ (nb x - 1) < 2 ^ 64 := Nat.lt_of_le_of_lt b h
    have := (Nat.pow_lt_pow_iff_right (by omega)).1 this
    omega
end Go.Proofs.YtogfiekbikechaaGreatDoor

namespace Go.Proofs.YtogfiekbikechaaGreatDoor
open Go.RowKit

/-- A contract that leaves the world alone, within a region that draws. -/
theorem quietL {P : Program} {f : FuncId} {args : Array Value} {w : World} {k : Nat} {v : Value} (h : Calls P f args (w.drewN k) fun e w' => e = .returned v ∧ w.drewN k = w') :
    Calls P f args (w.drewN k) fun e w' => e = .returned v ∧ ∃ m, w' = w.drewN m := by
  refine h.mono ?_
  rintro e w' ⟨he, rfl⟩
  exact ⟨he, k, rfl⟩
theorem len64_any (x : Nat) (h : x < 18446744073709551616) (w : World) :
    Calls Tryz.prog 122 #[.int .u64 x] w fun e w' => e = .returned (.int .i64 (nb x)) ∧ w = w' :=
  (Tryz.bits_Len64 x w (by omega) (by omega)).mono fun e w' ⟨h1, h2⟩ => ⟨by rw [h1]; simp only [Int.toNat_natCast, nb_bitLen h], h2.symm⟩
theorem isNaN_u (x : Int) (w : World) :
    Calls Tryz.prog 156 #[.int .u64 x] w fun e w' => e = .returned (.bool false) ∧ w = w' := by
  have h1 : (x != x) = false := by simp
  go_enter Tryz.func156, Tryz.ntmps156
  go_wp2
  go_ret
  exact ⟨rfl, rfl⟩
theorem compareU_any (a b : Nat) (w : World) :
    Calls Tryz.prog 144 #[.int .u64 a, .int .u64 b] w fun e w' => e = .returned (.int .i64 (cmpN a b)) ∧ w = w' := by
  rcases Nat.lt_trichotomy a b with h | h | h
  · have hc : cmpN a b = -1 := by unfold cmpN; rw [if_pos h]
    rw [hc]
    go_enter Tryz.func144, Tryz.ntmps144
    go_wp2_with (first | (go_at_call 156; refine (isNaN_u _ _).mono ?_; rintro e w' ⟨rfl, rfl⟩))
    all_goals go_ret
    all_goals exact ⟨rfl, rfl⟩
  · subst h
    have hc : cmpN a a = 0 := cmp_same a
    rw [hc]
    go_enter Tryz.func144, Tryz.ntmps144
    go_wp2_with (first | (go_at_call 156; refine (isNaN_u _ _).mono ?_; rintro e w' ⟨rfl, rfl⟩))
    all_goals go_ret
    all_goals exact ⟨rfl, rfl⟩
  · have hc : cmpN a b = 1 := by unfold cmpN; rw [if_neg (by omega), if_pos h]
    have h' : ¬ a < b := by omega
    rw [hc]
    go_enter Tryz.func144, Tryz.ntmps144
    go_wp2_with (first | (go_at_call 156; refine (isNaN_u _ _).mono ?_; rintro e w' ⟨rfl, rfl⟩))
    all_goals go_ret
    all_goals exact ⟨rfl, rfl⟩

set_option maxRecDepth 100000 in
set_option maxHeartbeats 2000000 in
theorem compare_V (n m : Nat) (V : Int) (hV : V = cmpN n m) (hn : n < N6) (hm : m < N6) (w : World) :
    Calls Tryz.prog 117 #[.agg #[.int .u64 (L n 0), .int .u64 (L n 1), .int .u64 (L n 2), .int .u64 (L n 3), .int .u64 (L n 4), .int .u64 (L n 5)], .agg #[.int .u64 (L m 0), .int .u64 (L m 1), .int .u64 (L m 2), .int .u64 (L m 3), .int .u64 (L m 4), .int .u64 (L m 5)]] w fun e w' =>
      e = .returned (.int .i64 V) ∧ Ext w w' := by
  have HV := Lib.hid hV
  clear hV
  have HN := Lib.hid hn
  have HM := Lib.hid hm
  clear hn hm
  go_enter Tryz.func117, Tryz.ntmps117
  go_wp2
  go_loopw [5] (fun i wr => ∃ k : Nat, k ≤ 6 ∧ i = .int .i64 ((k : Int) - 1) ∧ (∀ j, k ≤ j → j < 6 → L n j = L m j) ∧ Six wr w.heap.size (L n) ∧ Six wr (w.heap.size + 1) (L m) ∧ Ext w wr) (fun i _ => (intOf i + 1).toNat)
  case atStart =>
    have s1 := six_new w (L n) 118
    have s2 := six_new (w.alloc (.cells #[.int .u64 (L n 0), .int .u64 (L n 1), .int .u64 (L n 2), .int .u64 (L n 3), .int .u64 (L n 4), .int .u64 (L n 5)] 118)) (L m) 118
    simp only [World.size_alloc] at s2
    exact ⟨6, by omega, rfl, fun j h1 h2 => by omega, s1.later ((Ext.refl _).alloc _), s2, ((Ext.refl _).alloc _).alloc _⟩
  case round =>
    obtain ⟨k, hk, rfl, he, hs, hm, hx⟩ := hrel
    have HE := Lib.hid he
    clear he
    cases k with
    | zero =>
      have hc : cmpN n m = 0 := by rw [eq_of_places HN.out HM.out (fun j hj => HE.out j (by omega) hj)]; exact cmp_same m
      obtain rfl : V = 0 := HV.out.trans hc
      clear hc
      have X := Lib.hid hx
      clear hs hm hx
      go_wp2
      go_ret
      exact ⟨rfl, X.out⟩
    | succ q =>
      have eq1 : ((q + 1 : Nat) : Int) - 1 = q := by omega
      rw [eq1]
      clear eq1
      have hc1 := hs.cell q (by omega)
      have hc2 := hm.cell q (by omega)
      have i0 : (0 : Int) ≤ q := by omega
      have i1 : (q : Int) < 6 := by omega
      have S := Lib.hid hs
      have M := Lib.hid hm
      have X := Lib.hid hx
      clear hs hm hx
      by_cases hd : L n q = L m q
      · have hb : ((L n q : Int) != (L m q : Int)) = false := by rw [hd]; simp
        have HD := Lib.hid hd
        clear hd
        go_wp2
        go_region
        all_goals
          go_wp2
          go_roundw
          case rel => exact ⟨q, by omega, rfl, fun j h1 h2 => by
            by_cases h3 : j = q
            · rw [h3]; exact HD.out
            · exact HE.out j (by omega) h2, S.out.drew, M.out.drew, X.out.drew⟩
          case measure => simp [intOf]; try omega
      · have hb : ((L n q : Int) != (L m q : Int)) = true := by simp; omega
        have hc := cmp_at HN.out HM.out (show q < 6 by omega) (fun j h1 h2 => HE.out j (by omega) h2) hd
        obtain rfl : V = cmpN (L n q) (L m q) := HV.out.trans hc
        clear hc hd
        go_wp2
        go_region
        all_goals
          go_wp2
          have g1 := (S.out.drew).cell q (by omega)
          have g2 := (M.out.drew).cell q (by omega)
          have X2 := Lib.hid (X.out.drew)
          clear hc1 hc2 S M X
          generalize wr.drew = w2 at *
          go_quiet ((go_at_call 144; exact quietL (compareU_any _ _ _)))
          go_wp2
          go_ret
          exact ⟨rfl, X2.out.drewN _⟩
theorem compare_any (n m : Nat) (hn : n < N6) (hm : m < N6) (w : World) :
    Calls Tryz.prog 117 #[.agg #[.int .u64 (L n 0), .int .u64 (L n 1), .int .u64 (L n 2), .int .u64 (L n 3), .int .u64 (L n 4), .int .u64 (L n 5)], .agg #[.int .u64 (L m 0), .int .u64 (L m 1), .int .u64 (L m 2), .int .u64 (L m 3), .int .u64 (L m 4), .int .u64 (L m 5)]] w fun e w' =>
      e = .returned (.int .i64 (cmpN n m)) ∧ Ext w w' := compare_V n m _ rfl hn hm w

set_option maxRecDepth 100000 in
set_option maxHeartbeats 2000000 in
theorem length_V (n : Nat) (V : Int) (hV : V = nb n) (hn : n < N6) (w : World) :
    Calls Tryz.prog 132 #[.agg #[.int .u64 (L n 0), .int .u64 (L n 1), .int .u64 (L n 2), .int .u64 (L n 3), .int .u64 (L n 4), .int .u64 (L n 5)]] w fun e w' =>
      e = .returned (.int .i64 V) ∧ Ext w w' := by
  have HV := Lib.hid hV
  have HN := Lib.hid hn
  clear hn hV
  go_enter Tryz.func132, Tryz.ntmps132
  go_wp2
  go_loopw [3] (fun i wr => ∃ k : Nat, k ≤ 6 ∧ i = .int .i64 ((k : Int) - 1) ∧ (∀ j, k ≤ j → j < 6 → L n j = 0) ∧ Six wr w.heap.size (L n) ∧ Ext w wr) (fun i _ => (intOf i + 1).toNat)
  case atStart => exact ⟨6, by omega, rfl, fun j h1 h2 => by omega, six_new w (L n) 118, (Ext.refl _).alloc _⟩
  case round =>
    obtain ⟨k, hk, rfl, he, hs, hx⟩ := hrel
    have HE := Lib.hid he
    clear he
    cases k with
    | zero =>
      have hz := zero_of_places HN.out (fun j hj => HE.out j (by omega) hj)
      obtain rfl : V = 0 := HV.out.trans (by rw [hz]; rfl)
      have X := Lib.hid hx
      clear hs hx hz
      go_wp2
      go_ret
      exact ⟨rfl, X.out⟩
    | succ q =>
      have eq1 : ((q + 1 : Nat) : Int) - 1 = q := by omega
      rw [eq1]
      clear eq1
      have hc1 := hs.cell q (by omega)
      have i0 : (0 : Int) ≤ q := by omega
      have i1 : (q : Int) < 6 := by omega
      have i2 : (q : Int) ≤ 5 := by omega
      have S := Lib.hid hs
      have X := Lib.hid hx
      clear hs hx
      have hl := L_lt n q
      by_cases hd : L n q = 0
      · have hb : ((L n q : Int) != 0) = false := by rw [hd]; rfl
        have HD := Lib.hid hd
        clear hd
        go_wp2
        go_roundw
        case rel => exact ⟨q, by omega, rfl, fun j h1 h2 => by
          by_cases h3 : j = q
          · rw [h3]; exact HD.out
          · exact HE.out j (by omega) h2, S.out, X.out⟩
        case measure => simp [intOf]; try omega
      · have hb : ((L n q : Int) != 0) = true := by simp; omega
        have hc := nb_at HN.out (show q < 6 by omega) (fun j h1 h2 => HE.out j (by omega) h2) hd
        have hn2 := nb_le64 hl
        obtain rfl : V = 64 * (q : Int) + (nb (L n q) : Int) := HV.out.trans (by rw [hc]; simp)
        clear hc hd
        go_wp2_with (first | (go_at_call 122; refine (len64_any _ hl _).mono ?_; rintro e w' ⟨rfl, rfl⟩))
        go_ret
        exact ⟨rfl, X.out⟩
end Go.Proofs.YtogfiekbikechaaGreatDoor
