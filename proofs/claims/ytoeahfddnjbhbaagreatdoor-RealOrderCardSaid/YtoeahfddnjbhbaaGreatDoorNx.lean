/- Layer 2: pieces of numeric strings, as the program cuts them. -/
import Derived.Test.YtoeahfddnjbhbaaGreatDoorProg
import Derived.Test.YtoeahfddnjbhbaaGreatDoorSt
import Derived.Test.YtoeahfddnjbhbaaGreatDoorGd
import Derived.Test.YtoeahfddnjbhbaaGreatDoorExt
import Derived.WalkKit
import Derived.WalkSpells
import Derived.WalkLawsBesides
import Derived.Lib.Hide
import Derived.Outline
namespace Go.Proofs.YtoeahfddnjbhbaaGreatDoor
open Go.RowKit

theorem cutP (l : List UInt8) (c : UInt8) (w : World) :
    Calls Tryz.prog 115 #[.string (bs l), .string ⟨#[c]⟩] w fun e w' => e = .returned (.tuple #[.string (bs (cut1 c l).1), .bool (cut1 c l).2]) ∧ w = w' := by
  refine (Tryz.strings_CutPrefix (bs l) ⟨#[c]⟩ w).mono fun e w' ⟨h1, h2⟩ => ⟨?_, h2.symm⟩
  rw [h1, bs_list]
  have := cut_prefix l c
  rw [show (⟨#[c]⟩ : ByteArray).data.toList = [c] from rfl, this.1, this.2]
  rfl
theorem trimP (l : List UInt8) (c : UInt8) (w : World) :
    Calls Tryz.prog 137 #[.string (bs l), .string ⟨#[c]⟩] w fun e w' => e = .returned (.string (bs (cut1 c l).1)) ∧ w = w' := by
  refine (Tryz.strings_TrimPrefix (bs l) ⟨#[c]⟩ w).mono fun e w' ⟨h1, h2⟩ => ⟨?_, h2.symm⟩
  rw [h1, bs_list]
  have := cut_prefix l c
  rw [show (⟨#[c]⟩ : ByteArray).data.toList = [c] from rfl, this.1]
  rfl
theorem trimD (l : List UInt8) (w : World) :
    Calls Tryz.prog 118 #[.string (bs l), .string ⟨#[48, 49, 50, 51, 52, 53, 54, 55, 56, 57]⟩] w fun e w' => e = .returned (.string (bs (rest l))) ∧ Ext w w' := by
  refine (Any.strings_TrimLeft_laid Tryz.lays161 (by kernel_rfl) (bs l) ⟨#[48, 49, 50, 51, 52, 53, 54, 55, 56, 57]⟩ w (by decide) (ascii_of_all (by decide))).mono fun e w' ⟨h1, h2⟩ => ⟨?_, ⟨h2⟩⟩
  rw [h1, bs_list]
  rw [show (⟨#[48, 49, 50, 51, 52, 53, 54, 55, 56, 57]⟩ : ByteArray).data.toList = [48, 49, 50, 51, 52, 53, 54, 55, 56, 57] from rfl, trim_digits]
  rfl
theorem trimZ (l : List UInt8) (w : World) :
    Calls Tryz.prog 118 #[.string (bs l), .string ⟨#[48]⟩] w fun e w' => e = .returned (.string (bs (l.dropWhile (· == 48)))) ∧ Ext w w' := by
  refine (Any.strings_TrimLeft_laid Tryz.lays161 (by kernel_rfl) (bs l) ⟨#[48]⟩ w (by decide) (ascii_of_all (by decide))).mono fun e w' ⟨h1, h2⟩ => ⟨?_, ⟨h2⟩⟩
  rw [h1, bs_list]
  rw [show (⟨#[48]⟩ : ByteArray).data.toList = [48] from rfl, trim_zeros]
  rfl
set_option maxHeartbeats 1000000 in
theorem cutDigits_any (l : List UInt8) (hl : l.length ≤ 1000) (w : World) :
    Calls Tryz.prog 116 #[.string (bs l)] w fun e w' => e = .returned (.tuple #[.string (bs (digs l)), .string (bs (rest l))]) ∧ Ext w w' := by
  have h1 := digs_len l
  have z1 : (bs l).size = l.length := rfl
  have z2 : (bs (rest l)).size = (rest l).length := rfl
  have he := extract_digs l
  have i0 : (0 : Int) ≤ (l.length : Int) - ((rest l).length : Int) := by omega
  have i1 : (l.length : Int) - ((rest l).length : Int) ≤ l.length := by omega
  have i2 : ((l.length : Int) - ((rest l).length : Int)).toNat = l.length - (rest l).length := by omega
  have i3 : IntKind.i64.wrap ((l.length : Int) - ((rest l).length : Int)) = (l.length : Int) - ((rest l).length : Int) := IntWalk.i64_in _ ⟨by omega, by omega⟩
  have HB := Lib.hid h1
  clear h1
  go_enter Tryz.func116, Tryz.ntmps116
  go_wp2_with fail
  refine (trimD l _).mono ?_
  rintro e w1 ⟨rfl, hx⟩
  go_wp2
  go_ret2
  exact ⟨rfl, hx⟩
end Go.Proofs.YtoeahfddnjbhbaaGreatDoor
