/-
  DERIVED: THE SHELF's CONTRACTS AT THIS DUMP, IN PLAIN WORDS (tools/lay-plain.mjs out of 'YtogfiekbikechaaGreatDoorStTmp.lean', which tools/lay-shelf.mjs wrote): THE SAME DECLARATIONS UNDER THE SAME NAMES: 'import', 'namespace', 'open', 'def', 'theorem' AND NOTHING ELSE: no command of the shelf's: FOR A HAND-IN. Each laying: the table of numbers ('.._ren') and one theorem, a field a fact of the dump's own or the kernel's comparison; each contract: ONE APPLICATION.
-/
/- Layer 2: pieces of numeric strings: plain facts (no program here). -/
/- Layer 2: pieces of numeric strings, as the program cuts them. -/
/- Layer 2: the exponent of a numeric string, as the program reads it. -/
/- Layer 2: the parts of a numeric string. -/
import Derived.Test.YtogfiekbikechaaGreatDoorProg
import Derived.Shelf.Strings.Prefix
import Derived.Shelf.Small.Wraps
import Derived.Shelf.Strings.SlTrimAscii
import Derived.Shelf.Small.Bits
import Derived.Test.YtogfiekbikechaaGreatDoorGa
import Derived.Lib.Strings
import Derived.Lib.SlTrimSet
import Derived.WalkKit
import Derived.WalkSpells
import Derived.WalkLawsBesides
import Derived.Lib.Hide
import Derived.Outline
import Derived.Lib.ConvBytes
namespace Go.Proofs
open Go.Shelf
def Tryz.lays125_ren : Go.Shelf.Ren := ⟨fun | 125 => 101 | 128 => 123 | 129 => 122 | n => n, fun | 46 => 63 | 3 => 3 | 51 => 137 | 53 => 64 | 4 => 4 | 5 => 5 | 9 => 9 | n => n, fun | n => n⟩
theorem Tryz.lays125 : Go.Proofs.Lays.n125 Tryz.prog Tryz.lays125_ren := {
  mixed := by kernel_rfl
  f125 := Tryz.func101.trans (congrArg some (by kernel_rfl))
  f128 := Tryz.func123.trans (congrArg some (by kernel_rfl))
  f129 := Tryz.func122.trans (congrArg some (by kernel_rfl))
  t3 := Tryz.underlying3
  a3 := Tryz.isAgg3
  z3 := Tryz.sizeOf3
  v3 := Tryz.zeroValue3
  t4 := Tryz.underlying4
  a4 := Tryz.isAgg4
  z4 := Tryz.sizeOf4
  v4 := Tryz.zeroValue4
  t5 := Tryz.underlying5
  a5 := Tryz.isAgg5
  z5 := Tryz.sizeOf5
  v5 := Tryz.zeroValue5
  t9 := Tryz.underlying9
  a9 := Tryz.isAgg9
  z9 := Tryz.sizeOf9
  v9 := Tryz.zeroValue9
  t46 := Tryz.underlying63
  a46 := Tryz.isAgg63
  z46 := Tryz.sizeOf63
  v46 := Tryz.zeroValue63
  t51 := Tryz.underlying137
  a51 := Tryz.isAgg137
  z51 := Tryz.sizeOf137
  v51 := Tryz.zeroValue137
  t53 := Tryz.underlying64
  a53 := Tryz.isAgg64
  z53 := Tryz.sizeOf64
  v53 := Tryz.zeroValue64 }
/-- bits.Len: "Len returns the minimum number of bits required to represent x; the result is 0 for x == 0.": IT RETURNS 'Lib.bitLen x'; the world is as it was. (A uint has 64 bits in the model.) ITS CALLEE bits.Len64 IS MET BY ITS OWN CONTRACT OFF THE SHELF (lay that first). (LAID: no walk: one application.) -/
theorem Tryz.bits_Len (x : Int) (w : World) (h0 : 0 ≤ x) (h1 : x ≤ 18446744073709551615) :
    Calls Tryz.prog 101 #[.int .u64 x] w fun e w' => e = .returned (.int .i64 (Lib.bitLen x.toNat)) ∧ w' = w := Any.bits_Len Tryz.lays125 x w h0 h1
def Tryz.lays134_ren : Go.Shelf.Ren := ⟨fun | 134 => 98 | 129 => 122 | n => n, fun | 53 => 64 | 3 => 3 | 4 => 4 | 46 => 63 | 5 => 5 | 9 => 9 | n => n, fun | n => n⟩
theorem Tryz.lays134 : Go.Proofs.Lays.n134 Tryz.prog Tryz.lays134_ren := {
  mixed := by kernel_rfl
  f129 := Tryz.func122.trans (congrArg some (by kernel_rfl))
  f134 := Tryz.func98.trans (congrArg some (by kernel_rfl))
  t3 := Tryz.underlying3
  a3 := Tryz.isAgg3
  z3 := Tryz.sizeOf3
  v3 := Tryz.zeroValue3
  t4 := Tryz.underlying4
  a4 := Tryz.isAgg4
  z4 := Tryz.sizeOf4
  v4 := Tryz.zeroValue4
  t5 := Tryz.underlying5
  a5 := Tryz.isAgg5
  z5 := Tryz.sizeOf5
  v5 := Tryz.zeroValue5
  t9 := Tryz.underlying9
  a9 := Tryz.isAgg9
  z9 := Tryz.sizeOf9
  v9 := Tryz.zeroValue9
  t46 := Tryz.underlying63
  a46 := Tryz.isAgg63
  z46 := Tryz.sizeOf63
  v46 := Tryz.zeroValue63
  t53 := Tryz.underlying64
  a53 := Tryz.isAgg64
  z53 := Tryz.sizeOf64
  v53 := Tryz.zeroValue64 }
/-- bits.LeadingZeros64: "LeadingZeros64 returns the number of leading zero bits in x; the result is 64 for x == 0.": IT RETURNS '64 - Lib.bitLen x'; the world is as it was. ITS CALLEE bits.Len64 IS MET BY ITS OWN CONTRACT OFF THE SHELF (lay that first): entered in place it sends the kernel out of memory. (LAID: no walk: one application.) -/
theorem Tryz.bits_LeadingZeros64 (x : Int) (w : World) (h0 : 0 ≤ x) (h1 : x ≤ 18446744073709551615) :
    Calls Tryz.prog 98 #[.int .u64 x] w fun e w' => e = .returned (.int .i64 (64 - (Lib.bitLen x.toNat : Int))) ∧ w' = w := Any.bits_LeadingZeros64 Tryz.lays134 x w h0 h1
def Tryz.lays103_ren : Go.Shelf.Ren := ⟨fun | 103 => 103 | 210 => 124 | 206 => 146 | n => n, fun | 9 => 9 | 4 => 4 | 24 => 110 | 3 => 3 | n => n, fun | n => n⟩
theorem Tryz.lays103 : Go.Proofs.Lays.n103 Tryz.prog Tryz.lays103_ren := {
  mixed := by kernel_rfl
  f103 := Tryz.func103.trans (congrArg some (by kernel_rfl))
  f206 := Tryz.func146.trans (congrArg some (by kernel_rfl))
  f210 := Tryz.func124.trans (congrArg some (by kernel_rfl))
  t3 := Tryz.underlying3
  a3 := Tryz.isAgg3
  z3 := Tryz.sizeOf3
  v3 := Tryz.zeroValue3
  t4 := Tryz.underlying4
  a4 := Tryz.isAgg4
  z4 := Tryz.sizeOf4
  v4 := Tryz.zeroValue4
  t9 := Tryz.underlying9
  a9 := Tryz.isAgg9
  z9 := Tryz.sizeOf9
  v9 := Tryz.zeroValue9
  t24 := Tryz.underlying110
  a24 := Tryz.isAgg110
  z24 := Tryz.sizeOf110
  v24 := Tryz.zeroValue110 }
open Go.RowKit in
/-- strings.CutPrefix: "CutPrefix returns s without the provided leading prefix string and reports whether it found the prefix. If s doesn't start with prefix, CutPrefix returns s, false. If prefix is the empty string, CutPrefix returns s, true.": IT RETURNS '(Lib.trimPrefix s p, Lib.hasPrefix s p)'; the world is as it was. (LAID: no walk: one application.) -/
theorem Tryz.strings_CutPrefix (s p : ByteArray) (w : World) :
    Calls Tryz.prog 103 #[.string s, .string p] w fun e w' => e = .returned (.tuple #[.string ⟨(Lib.trimPrefix s.data.toList p.data.toList).toArray⟩, .bool (Lib.hasPrefix s.data.toList p.data.toList)]) ∧ w' = w := Any.strings_CutPrefix Tryz.lays103 s p w
def Tryz.lays101_ren : Go.Shelf.Ren := ⟨fun | 101 => 125 | 208 => 147 | 206 => 146 | n => n, fun | 9 => 9 | 4 => 4 | 3 => 3 | n => n, fun | n => n⟩
theorem Tryz.lays101 : Go.Proofs.Lays.n101 Tryz.prog Tryz.lays101_ren := {
  mixed := by kernel_rfl
  f101 := Tryz.func125.trans (congrArg some (by kernel_rfl))
  f206 := Tryz.func146.trans (congrArg some (by kernel_rfl))
  f208 := Tryz.func147.trans (congrArg some (by kernel_rfl))
  t3 := Tryz.underlying3
  a3 := Tryz.isAgg3
  z3 := Tryz.sizeOf3
  v3 := Tryz.zeroValue3
  t4 := Tryz.underlying4
  a4 := Tryz.isAgg4
  z4 := Tryz.sizeOf4
  v4 := Tryz.zeroValue4
  t9 := Tryz.underlying9
  a9 := Tryz.isAgg9
  z9 := Tryz.sizeOf9
  v9 := Tryz.zeroValue9 }
open Go.RowKit Go.Lib in
/-- strings.TrimPrefix: "TrimPrefix returns s without the provided leading prefix string. If s doesn't start with prefix, s is returned unchanged.": IT RETURNS 'Lib.trimPrefix s prefix'; the world is as it was. (LAID: no walk: one application.) -/
theorem Tryz.strings_TrimPrefix (s p : ByteArray) (w : World) :
    Calls Tryz.prog 125 #[.string s, .string p] w fun e w' => e = .returned (.string ⟨(Lib.trimPrefix s.data.toList p.data.toList).toArray⟩) ∧ w' = w := Any.strings_TrimPrefix Tryz.lays101 s p w
def Tryz.lays161_ren : Go.Shelf.Ren := ⟨fun | 161 => 106 | 231 => 126 | 227 => 127 | 233 => 128 | 235 => 129 | 228 => 148 | 197 => 149 | 151 => 150 | 260 => 157 | 152 => 158 | 137 => 165 | 119 => 166 | 224 => 167 | 225 => 168 | 217 => 173 | 266 => 176 | n => n, fun | 9 => 9 | 4 => 4 | 3 => 3 | 5 => 5 | 117 => 141 | 116 => 140 | 0 => 0 | 124 => 144 | 105 => 166 | 21 => 21 | 119 => 183 | 46 => 63 | 139 => 186 | 138 => 185 | n => n, fun | 3 => 1 | 4 => 2 | n => n⟩
theorem Tryz.lays161 : Go.Proofs.Lays.n161 Tryz.prog Tryz.lays161_ren := {
  mixed := by kernel_rfl
  f119 := Tryz.func166.trans (congrArg some (by kernel_rfl))
  f137 := Tryz.func165.trans (congrArg some (by kernel_rfl))
  f151 := Tryz.func150.trans (congrArg some (by kernel_rfl))
  f152 := Tryz.func158.trans (congrArg some (by kernel_rfl))
  f161 := Tryz.func106.trans (congrArg some (by kernel_rfl))
  f197 := Tryz.func149.trans (congrArg some (by kernel_rfl))
  f217 := Tryz.func173.trans (congrArg some (by kernel_rfl))
  f224 := Tryz.func167.trans (congrArg some (by kernel_rfl))
  f225 := Tryz.func168.trans (congrArg some (by kernel_rfl))
  f227 := Tryz.func127.trans (congrArg some (by kernel_rfl))
  f228 := Tryz.func148.trans (congrArg some (by kernel_rfl))
  f231 := Tryz.func126.trans (congrArg some (by kernel_rfl))
  f233 := Tryz.func128.trans (congrArg some (by kernel_rfl))
  f235 := Tryz.func129.trans (congrArg some (by kernel_rfl))
  f260 := Tryz.func157.trans (congrArg some (by kernel_rfl))
  f266 := Tryz.func176.trans (congrArg some (by kernel_rfl))
  t0 := Tryz.underlying0
  a0 := Tryz.isAgg0
  z0 := Tryz.sizeOf0
  v0 := Tryz.zeroValue0
  t3 := Tryz.underlying3
  a3 := Tryz.isAgg3
  z3 := Tryz.sizeOf3
  v3 := Tryz.zeroValue3
  t4 := Tryz.underlying4
  a4 := Tryz.isAgg4
  z4 := Tryz.sizeOf4
  v4 := Tryz.zeroValue4
  t5 := Tryz.underlying5
  a5 := Tryz.isAgg5
  z5 := Tryz.sizeOf5
  v5 := Tryz.zeroValue5
  t9 := Tryz.underlying9
  a9 := Tryz.isAgg9
  z9 := Tryz.sizeOf9
  v9 := Tryz.zeroValue9
  t21 := Tryz.underlying21
  a21 := Tryz.isAgg21
  z21 := Tryz.sizeOf21
  v21 := Tryz.zeroValue21
  t46 := Tryz.underlying63
  a46 := Tryz.isAgg63
  z46 := Tryz.sizeOf63
  v46 := Tryz.zeroValue63
  t105 := Tryz.underlying166
  a105 := Tryz.isAgg166
  z105 := Tryz.sizeOf166
  v105 := Tryz.zeroValue166
  t116 := Tryz.underlying140
  a116 := Tryz.isAgg140
  z116 := Tryz.sizeOf140
  t117 := Tryz.underlying141
  a117 := Tryz.isAgg141
  z117 := Tryz.sizeOf141
  v117 := Tryz.zeroValue141
  t119 := Tryz.underlying183
  a119 := Tryz.isAgg183
  z119 := Tryz.sizeOf183
  t124 := Tryz.underlying144
  a124 := Tryz.isAgg144
  z124 := Tryz.sizeOf144
  v124 := Tryz.zeroValue144
  t138 := Tryz.underlying185
  a138 := Tryz.isAgg185
  z138 := Tryz.sizeOf185
  v138 := Tryz.zeroValue185
  t139 := Tryz.underlying186
  a139 := Tryz.isAgg186
  z139 := Tryz.sizeOf186
  v139 := Tryz.zeroValue186
  g3 := by kernel_rfl
  g4 := by kernel_rfl }
end Go.Proofs

namespace Go.Proofs.YtogfiekbikechaaGreatDoor

/-- A string out of its bytes. -/
def bs (l : List UInt8) : ByteArray := ⟨l.toArray⟩
theorem bs_list (l : List UInt8) : (bs l).data.toList = l := by simp [bs]
theorem bs_size (l : List UInt8) : (bs l).size = l.length := rfl
theorem bs_of (s : ByteArray) : s = bs s.data.toList := by
  obtain ⟨⟨l⟩⟩ := s; rfl
theorem bs_toList (l : List UInt8) : (bs l).toList = l := by rw [Lib.toList_data, bs_list]
theorem bs_append (a b : List UInt8) : bs a ++ bs b = bs (a ++ b) := by
  rw [bs_of (bs a ++ bs b)]
  congr 1
theorem cut_prefix (l : List UInt8) (c : UInt8) : Lib.trimPrefix l [c] = (cut1 c l).1 ∧ Lib.hasPrefix l [c] = (cut1 c l).2 := by
  cases l with
  | nil => exact ⟨rfl, rfl⟩
  | cons a r =>
    have h : Lib.hasPrefix (a :: r) [c] = decide (a = c) := by
      unfold Lib.hasPrefix
      simp only [List.isPrefixOf]
      by_cases e : a = c
      · subst e; simp
      · simp [e, Ne.symm e]
    unfold Lib.trimPrefix cut1
    rw [h]
    by_cases e : a = c <;> simp [e]
theorem dig_set (c : UInt8) : [48, 49, 50, 51, 52, 53, 54, 55, 56, 57].contains c = isDg c := by
  have : ∀ c : Fin 256, [48, 49, 50, 51, 52, 53, 54, 55, 56, 57].contains (UInt8.ofNat c.val) = isDg (UInt8.ofNat c.val) := by decide +kernel
  have h := this ⟨c.toNat, c.toNat_lt⟩
  simpa using h
theorem trim_digits (l : List UInt8) : Lib.trimLeftS l [48, 49, 50, 51, 52, 53, 54, 55, 56, 57] = rest l := by
  unfold Lib.trimLeftS rest
  congr 1
  funext c
  exact dig_set c
theorem trim_zeros (l : List UInt8) : Lib.trimLeftS l [48] = l.dropWhile (· == 48) := by
  unfold Lib.trimLeftS
  congr 1
  funext c
  show (match c == 48 with | true => true | false => false) = (c == 48)
  cases (c == 48) <;> rfl
theorem digs_rest (l : List UInt8) : digs l ++ rest l = l := List.takeWhile_append_dropWhile
theorem digs_len (l : List UInt8) : (digs l).length + (rest l).length = l.length := by
  have := congrArg List.length (digs_rest l); rw [List.length_append] at this; exact this
theorem digs_take (l : List UInt8) : l.take (l.length - (rest l).length) = digs l := by
  have h := digs_len l
  have e : l.length - (rest l).length = (digs l).length := by omega
  rw [e]
  have h2 := digs_rest l
  generalize digs l = a at *
  generalize rest l = b at *
  subst h2
  exact List.take_left
theorem digs_all (l : List UInt8) : (digs l).all isDg = true := by
  unfold digs
  induction l with
  | nil => rfl
  | cons a r ih =>
    by_cases h : isDg a = true
    · rw [List.takeWhile_cons, if_pos h, List.all_cons, h, ih]; rfl
    · rw [List.takeWhile_cons, if_neg h]; rfl
theorem extract_digs (l : List UInt8) : (bs l).extract 0 (l.length - (rest l).length) = bs (digs l) := by
  rw [bs_of ((bs l).extract 0 (l.length - (rest l).length))]
  congr 1
  rw [Lib.extract_data, bs_list, List.drop_zero, Nat.sub_zero, digs_take]
theorem drop_le (p : UInt8 → Bool) (l : List UInt8) : (l.dropWhile p).length ≤ l.length := (List.dropWhile_sublist p).length_le
theorem cut1_le (c : UInt8) (l : List UInt8) : (cut1 c l).1.length ≤ l.length := by
  cases l with
  | nil => exact Nat.le_refl _
  | cons a r =>
    show (if a = c then (r, true) else (a :: r, false)).1.length ≤ _
    by_cases e : a = c
    · rw [if_pos e]; simp
    · rw [if_neg e]; exact Nat.le_refl _
theorem expF_snoc (l : List UInt8) (c : UInt8) : expF (l ++ [c]) = expS (expF l) c := by unfold expF; rw [List.foldl_append]; rfl
theorem expS_bd {n : Int} {c : UInt8} (h : 0 ≤ n) (hc : isDg c = true) : 0 ≤ expS n c ∧ expS n c ≤ 10000 := by
  unfold isDg at hc; simp at hc; unfold expS; omega
theorem exp_bd : ∀ (l : List UInt8) (n : Int), 0 ≤ n → n ≤ 10000 → l.all isDg = true → 0 ≤ l.foldl expS n ∧ l.foldl expS n ≤ 10000
  | [], n, h, h', _ => ⟨h, h'⟩
  | c :: r, n, h, h', ha => by
    rw [List.all_cons, Bool.and_eq_true] at ha
    have := expS_bd h ha.1
    exact exp_bd r (expS n c) this.1 this.2 ha.2
theorem expF_bd {l : List UInt8} (h : l.all isDg = true) : 0 ≤ expF l ∧ expF l ≤ 10000 := exp_bd l 0 (by omega) (by omega) h
theorem whole_digs {l : List UInt8} (h : rest l = []) : digs l = l := by
  have := digs_rest l; rw [h, List.append_nil] at this; exact this
end Go.Proofs.YtogfiekbikechaaGreatDoor

namespace Go.Proofs.YtogfiekbikechaaGreatDoor
open Go.RowKit

theorem cutP (l : List UInt8) (c : UInt8) (w : World) :
    Calls Tryz.prog 103 #[.string (bs l), .string ⟨#[c]⟩] w fun e w' => e = .returned (.tuple #[.string (bs (cut1 c l).1), .bool (cut1 c l).2]) ∧ w = w' := by
  refine (Tryz.strings_CutPrefix (bs l) ⟨#[c]⟩ w).mono fun e w' ⟨h1, h2⟩ => ⟨?_, h2.symm⟩
  rw [h1, bs_list]
  have := cut_prefix l c
  rw [show (⟨#[c]⟩ : ByteArray).data.toList = [c] from rfl, this.1, this.2]
  rfl
theorem trimP (l : List UInt8) (c : UInt8) (w : World) :
    Calls Tryz.prog 125 #[.string (bs l), .string ⟨#[c]⟩] w fun e w' => e = .returned (.string (bs (cut1 c l).1)) ∧ w = w' := by
  refine (Tryz.strings_TrimPrefix (bs l) ⟨#[c]⟩ w).mono fun e w' ⟨h1, h2⟩ => ⟨?_, h2.symm⟩
  rw [h1, bs_list]
  have := cut_prefix l c
  rw [show (⟨#[c]⟩ : ByteArray).data.toList = [c] from rfl, this.1]
  rfl
theorem trimD (l : List UInt8) (w : World) :
    Calls Tryz.prog 106 #[.string (bs l), .string ⟨#[48, 49, 50, 51, 52, 53, 54, 55, 56, 57]⟩] w fun e w' => e = .returned (.string (bs (rest l))) ∧ Ext w w' := by
  refine (Any.strings_TrimLeft_laid Tryz.lays161 (by kernel_rfl) (bs l) ⟨#[48, 49, 50, 51, 52, 53, 54, 55, 56, 57]⟩ w (by decide) (ascii_of_all (by decide))).mono fun e w' ⟨h1, h2⟩ => ⟨?_, ⟨h2⟩⟩
  rw [h1, bs_list]
  rw [show (⟨#[48, 49, 50, 51, 52, 53, 54, 55, 56, 57]⟩ : ByteArray).data.toList = [48, 49, 50, 51, 52, 53, 54, 55, 56, 57] from rfl, trim_digits]
  rfl
theorem trimZ (l : List UInt8) (w : World) :
    Calls Tryz.prog 106 #[.string (bs l), .string ⟨#[48]⟩] w fun e w' => e = .returned (.string (bs (l.dropWhile (· == 48)))) ∧ Ext w w' := by
  refine (Any.strings_TrimLeft_laid Tryz.lays161 (by kernel_rfl) (bs l) ⟨#[48]⟩ w (by decide) (ascii_of_all (by decide))).mono fun e w' ⟨h1, h2⟩ => ⟨?_, ⟨h2⟩⟩
  rw [h1, bs_list]
  rw [show (⟨#[48]⟩ : ByteArray).data.toList = [48] from rfl, trim_zeros]
  rfl
set_option maxHeartbeats 1000000 in
theorem cutDigits_any (l : List UInt8) (hl : l.length ≤ 1000) (w : World) :
    Calls Tryz.prog 104 #[.string (bs l)] w fun e w' => e = .returned (.tuple #[.string (bs (digs l)), .string (bs (rest l))]) ∧ Ext w w' := by
  have h1 := digs_len l
  have z1 : (bs l).size = l.length := rfl
  have z2 : (bs (rest l)).size = (rest l).length := rfl
  have he := extract_digs l
  have i0 : (0 : Int) ≤ (l.length : Int) - ((rest l).length : Int) := by omega
  have i1 : (l.length : Int) - ((rest l).length : Int) ≤ l.length := by omega
  have i2 : ((l.length : Int) - ((rest l).length : Int)).toNat = l.length - (rest l).length := by omega
  have i3 : IntKind.i64.wrap ((l.length : Int) - ((rest l).length : Int)) = (l.length : Int) - ((rest l).length : Int) := IntWalk.i64_in _ ⟨by omega, by omega⟩
  have HB := Lib.hid h1
  clear h1
  go_enter Tryz.func104, Tryz.ntmps104
  go_wp2_with fail
  refine (trimD l _).mono ?_
  rintro e w1 ⟨rfl, hx⟩
  go_wp2
  go_ret2
  exact ⟨rfl, hx⟩
end Go.Proofs.YtogfiekbikechaaGreatDoor

namespace Go.Proofs.YtogfiekbikechaaGreatDoor
open Go.RowKit

theorem list_some {l : List UInt8} (h : l ≠ []) : ¬ (bs l).toList = [] ∧ (bs l).toList.isEmpty = false := by
  rw [bs_toList]; cases l
  · exact absurd rfl h
  · exact ⟨by simp, rfl⟩
theorem list_none {l : List UInt8} (h : l = []) : (bs l).toList = [] ∧ (bs l).toList.isEmpty = true := by
  subst h; exact ⟨by rw [bs_toList], by rw [bs_toList]; rfl⟩
theorem expS_if (n : Int) (c : UInt8) : expS n c = if 10000 < 10 * n + ((c.toNat : Int) - 48) then 10000 else 10 * n + ((c.toNat : Int) - 48) := by
  unfold expS; split <;> omega
theorem getD_mem' {l : List UInt8} {k : Nat} (h : k < l.length) : l.getD k 0 ∈ l := by
  rw [List.getD_eq_getElem?_getD, List.getElem?_eq_getElem h]; exact List.getElem_mem _
theorem expF_take (l : List UInt8) (k : Nat) (h : k < l.length) : expF (l.take (k + 1)) = expS (expF (l.take k)) (l.getD k 0) := by
  rw [List.take_succ_eq_append_getElem h, expF_snoc]
  congr 1
  rw [List.getD_eq_getElem?_getD, List.getElem?_eq_getElem h]; rfl
theorem bytes_ext (w : World) (e : TypeId) (s : ByteArray) : Ext w (Lib.bytesWorld w e s) := ⟨⟨rfl, rfl, rfl, by rw [Lib.bytesWorld_size]; omega, fun k hk => Lib.bytesWorld_at_old _ _ _ k hk⟩⟩
theorem all_take {l : List UInt8} (k : Nat) (h : l.all isDg = true) : (l.take k).all isDg = true := List.all_eq_true.2 fun x hx => List.all_eq_true.1 h x (List.mem_of_mem_take hx)

set_option maxHeartbeats 1000000 in
theorem re_neg_none (s d : List UInt8) (hl : d.length ≤ 1000) (hc : (cut1 45 s).2 = true) (hs : (cut1 45 s).1 = d) (hd : digs d = []) (w : World) :
    Calls Tryz.prog 105 #[.string (bs s)] w fun e w' => e = .returned (.tuple #[.int .i64 0, .bool false]) ∧ Ext w w' := by
  obtain ⟨m1, m2⟩ := list_none hd
  have HC := Lib.hid hc
  have HS := Lib.hid hs
  clear hc hs hd
  have p1 : ∀ w, Calls Tryz.prog 103 #[.string (bs s), .string ⟨#[45]⟩] w fun e w' => e = .returned (.tuple #[.string (bs (cut1 45 s).1), .bool true]) ∧ w = w' := fun w => by have := cutP s 45 w; rw [HC.out] at this; exact this
  rw [HS.out] at p1
  have P1 := Lib.hid p1
  clear p1
  go_enter Tryz.func105, Tryz.ntmps105
  go_wp2_with fail
  refine (P1.out _).mono ?_
  rintro e w' ⟨rfl, rfl⟩
  go_wp2_with fail
  refine (cutDigits_any d hl _).mono ?_
  rintro e w1 ⟨rfl, hx⟩
  go_wp2
  go_ret2
  exact ⟨rfl, hx⟩

set_option maxHeartbeats 1000000 in
theorem re_neg_more (s d : List UInt8) (hl : d.length ≤ 1000) (hc : (cut1 45 s).2 = true) (hs : (cut1 45 s).1 = d) (hd : digs d ≠ []) (hr : rest d ≠ []) (w : World) :
    Calls Tryz.prog 105 #[.string (bs s)] w fun e w' => e = .returned (.tuple #[.int .i64 0, .bool false]) ∧ Ext w w' := by
  obtain ⟨m1, m2⟩ := list_some hd
  obtain ⟨m3, m4⟩ := list_some hr
  have HC := Lib.hid hc
  have HS := Lib.hid hs
  clear hc hs hd hr
  have p1 : ∀ w, Calls Tryz.prog 103 #[.string (bs s), .string ⟨#[45]⟩] w fun e w' => e = .returned (.tuple #[.string (bs (cut1 45 s).1), .bool true]) ∧ w = w' := fun w => by have := cutP s 45 w; rw [HC.out] at this; exact this
  rw [HS.out] at p1
  have P1 := Lib.hid p1
  clear p1
  go_enter Tryz.func105, Tryz.ntmps105
  go_wp2_with fail
  refine (P1.out _).mono ?_
  rintro e w' ⟨rfl, rfl⟩
  go_wp2_with fail
  refine (cutDigits_any d hl _).mono ?_
  rintro e w1 ⟨rfl, hx⟩
  go_wp2
  go_ret2
  exact ⟨rfl, hx⟩

set_option maxHeartbeats 1000000 in
theorem re_neg_good (s d : List UInt8) (hl : d.length ≤ 1000) (hc : (cut1 45 s).2 = true) (hs : (cut1 45 s).1 = d) (hd : digs d ≠ []) (hr : rest d = []) (w : World) :
    Calls Tryz.prog 105 #[.string (bs s)] w fun e w' => e = .returned (.tuple #[.int .i64 (-(expF d)), .bool true]) ∧ Ext w w' := by
  obtain ⟨m1, m2⟩ := list_some hd
  obtain ⟨m3, m4⟩ := list_none hr
  have hall := digs_all d
  rw [whole_digs hr] at hall
  have HA := Lib.hid hall
  clear hall
  have kc := fun (w : World) => Lib.run_convert_string_bytes (P := Tryz.prog) w 9 119 5 (bs d) Tryz.underlying9 Tryz.underlying119 Tryz.underlying5
  have zd : (bs d).size = d.length := rfl
  have HC := Lib.hid hc
  have HS := Lib.hid hs
  clear hc hs hd hr
  have p1 : ∀ w, Calls Tryz.prog 103 #[.string (bs s), .string ⟨#[45]⟩] w fun e w' => e = .returned (.tuple #[.string (bs (cut1 45 s).1), .bool true]) ∧ w = w' := fun w => by have := cutP s 45 w; rw [HC.out] at this; exact this
  rw [HS.out] at p1
  have P1 := Lib.hid p1
  clear p1
  go_enter Tryz.func105, Tryz.ntmps105
  go_wp2_with fail
  refine (P1.out _).mono ?_
  rintro e w' ⟨rfl, rfl⟩
  go_wp2_with fail
  refine (cutDigits_any d hl _).mono ?_
  rintro e w1 ⟨rfl, hx⟩
  go_wp2
  have X := Lib.hid (hx.trans (bytes_ext w1 5 (bs d)))
  have BC := Lib.hid (fun j (hj : j < d.length) => Lib.bytesWorld_cell w1 5 (bs d) j hj)
  simp only [bs_list] at BC
  generalize Lib.bytesWorld w1 5 (bs d) = w2 at *
  clear hx m1 m2 m3 m4 kc
  go_loop [2, 33] (fun n i => ∃ k : Nat, k ≤ d.length ∧ i = .int .i64 k ∧ n = .int .i64 (expF (d.take k))) (fun _ i => d.length - (intOf i).toNat)
  case atStart => exact ⟨0, Nat.zero_le _, rfl, rfl⟩
  case round =>
    obtain ⟨k, hk, rfl, rfl⟩ := hrel
    have bd := expF_bd (all_take k HA.out)
    by_cases hlt : k < d.length
    · have hc := BC.out k hlt
      have HE := Lib.hid (expF_take d k hlt)
      have hdg := List.all_eq_true.1 HA.out _ (getD_mem' hlt)
      unfold isDg at hdg
      simp only [Bool.and_eq_true, decide_eq_true_eq] at hdg
      generalize d.getD k 0 = c at *
      generalize expF (d.take k) = n at *
      have g1 : (48 : Int) ≤ c.toNat := by omega
      have g2 : (c.toNat : Int) ≤ 57 := by omega
      clear hdg
      go_wp2
      go_round
      case rel => exact ⟨k + 1, by omega, by go_num, by rw [HE.out]; first | rfl | rw [expS_if]⟩
      case measure => simp [intOf]; omega
    · have hT : d.take k = d := List.take_of_length_le (by omega)
      rw [hT] at bd ⊢
      clear hT
      generalize hn : expF d = n at *
      have HN := Lib.hid hn
      clear hn
      go_wp2
      go_ret2
      exact ⟨by simp [HN.out], X.out⟩

set_option maxHeartbeats 1000000 in
theorem re_pos_none (s d : List UInt8) (hl : d.length ≤ 1000) (hc : (cut1 45 s).2 = false) (hs : (cut1 43 s).1 = d) (hd : digs d = []) (w : World) :
    Calls Tryz.prog 105 #[.string (bs s)] w fun e w' => e = .returned (.tuple #[.int .i64 0, .bool false]) ∧ Ext w w' := by
  obtain ⟨m1, m2⟩ := list_none hd
  have HC := Lib.hid hc
  have HS := Lib.hid hs
  clear hc hs hd
  have p1 : ∀ w, Calls Tryz.prog 103 #[.string (bs s), .string ⟨#[45]⟩] w fun e w' => e = .returned (.tuple #[.string (bs (cut1 45 s).1), .bool false]) ∧ w = w' := fun w => by have := cutP s 45 w; rw [HC.out] at this; exact this
  have P1 := Lib.hid p1
  clear p1
  have p2 : ∀ w, Calls Tryz.prog 125 #[.string (bs s), .string ⟨#[43]⟩] w fun e w' => e = .returned (.string (bs d)) ∧ w = w' := fun w => by have := trimP s 43 w; rw [HS.out] at this; exact this
  have P2 := Lib.hid p2
  clear p2
  go_enter Tryz.func105, Tryz.ntmps105
  go_wp2_with fail
  refine (P1.out _).mono ?_
  rintro e w' ⟨rfl, rfl⟩
  go_wp2_with fail
  refine (P2.out _).mono ?_
  rintro e w' ⟨rfl, rfl⟩
  go_wp2_with fail
  refine (cutDigits_any d hl _).mono ?_
  rintro e w1 ⟨rfl, hx⟩
  go_wp2
  go_ret2
  exact ⟨rfl, hx⟩

set_option maxHeartbeats 1000000 in
theorem re_pos_more (s d : List UInt8) (hl : d.length ≤ 1000) (hc : (cut1 45 s).2 = false) (hs : (cut1 43 s).1 = d) (hd : digs d ≠ []) (hr : rest d ≠ []) (w : World) :
    Calls Tryz.prog 105 #[.string (bs s)] w fun e w' => e = .returned (.tuple #[.int .i64 0, .bool false]) ∧ Ext w w' := by
  obtain ⟨m1, m2⟩ := list_some hd
  obtain ⟨m3, m4⟩ := list_some hr
  have HC := Lib.hid hc
  have HS := Lib.hid hs
  clear hc hs hd hr
  have p1 : ∀ w, Calls Tryz.prog 103 #[.string (bs s), .string ⟨#[45]⟩] w fun e w' => e = .returned (.tuple #[.string (bs (cut1 45 s).1), .bool false]) ∧ w = w' := fun w => by have := cutP s 45 w; rw [HC.out] at this; exact this
  have P1 := Lib.hid p1
  clear p1
  have p2 : ∀ w, Calls Tryz.prog 125 #[.string (bs s), .string ⟨#[43]⟩] w fun e w' => e = .returned (.string (bs d)) ∧ w = w' := fun w => by have := trimP s 43 w; rw [HS.out] at this; exact this
  have P2 := Lib.hid p2
  clear p2
  go_enter Tryz.func105, Tryz.ntmps105
  go_wp2_with fail
  refine (P1.out _).mono ?_
  rintro e w' ⟨rfl, rfl⟩
  go_wp2_with fail
  refine (P2.out _).mono ?_
  rintro e w' ⟨rfl, rfl⟩
  go_wp2_with fail
  refine (cutDigits_any d hl _).mono ?_
  rintro e w1 ⟨rfl, hx⟩
  go_wp2
  go_ret2
  exact ⟨rfl, hx⟩

set_option maxHeartbeats 1000000 in
theorem re_pos_good (s d : List UInt8) (hl : d.length ≤ 1000) (hc : (cut1 45 s).2 = false) (hs : (cut1 43 s).1 = d) (hd : digs d ≠ []) (hr : rest d = []) (w : World) :
    Calls Tryz.prog 105 #[.string (bs s)] w fun e w' => e = .returned (.tuple #[.int .i64 (expF d), .bool true]) ∧ Ext w w' := by
  obtain ⟨m1, m2⟩ := list_some hd
  obtain ⟨m3, m4⟩ := list_none hr
  have hall := digs_all d
  rw [whole_digs hr] at hall
  have HA := Lib.hid hall
  clear hall
  have kc := fun (w : World) => Lib.run_convert_string_bytes (P := Tryz.prog) w 9 119 5 (bs d) Tryz.underlying9 Tryz.underlying119 Tryz.underlying5
  have zd : (bs d).size = d.length := rfl
  have HC := Lib.hid hc
  have HS := Lib.hid hs
  clear hc hs hd hr
  have p1 : ∀ w, Calls Tryz.prog 103 #[.string (bs s), .string ⟨#[45]⟩] w fun e w' => e = .returned (.tuple #[.string (bs (cut1 45 s).1), .bool false]) ∧ w = w' := fun w => by have := cutP s 45 w; rw [HC.out] at this; exact this
  have P1 := Lib.hid p1
  clear p1
  have p2 : ∀ w, Calls Tryz.prog 125 #[.string (bs s), .string ⟨#[43]⟩] w fun e w' => e = .returned (.string (bs d)) ∧ w = w' := fun w => by have := trimP s 43 w; rw [HS.out] at this; exact this
  have P2 := Lib.hid p2
  clear p2
  go_enter Tryz.func105, Tryz.ntmps105
  go_wp2_with fail
  refine (P1.out _).mono ?_
  rintro e w' ⟨rfl, rfl⟩
  go_wp2_with fail
  refine (P2.out _).mono ?_
  rintro e w' ⟨rfl, rfl⟩
  go_wp2_with fail
  refine (cutDigits_any d hl _).mono ?_
  rintro e w1 ⟨rfl, hx⟩
  go_wp2
  have X := Lib.hid (hx.trans (bytes_ext w1 5 (bs d)))
  have BC := Lib.hid (fun j (hj : j < d.length) => Lib.bytesWorld_cell w1 5 (bs d) j hj)
  simp only [bs_list] at BC
  generalize Lib.bytesWorld w1 5 (bs d) = w2 at *
  clear hx m1 m2 m3 m4 kc
  go_loop [2, 33] (fun n i => ∃ k : Nat, k ≤ d.length ∧ i = .int .i64 k ∧ n = .int .i64 (expF (d.take k))) (fun _ i => d.length - (intOf i).toNat)
  case atStart => exact ⟨0, Nat.zero_le _, rfl, rfl⟩
  case round =>
    obtain ⟨k, hk, rfl, rfl⟩ := hrel
    have bd := expF_bd (all_take k HA.out)
    by_cases hlt : k < d.length
    · have hc := BC.out k hlt
      have HE := Lib.hid (expF_take d k hlt)
      have hdg := List.all_eq_true.1 HA.out _ (getD_mem' hlt)
      unfold isDg at hdg
      simp only [Bool.and_eq_true, decide_eq_true_eq] at hdg
      generalize d.getD k 0 = c at *
      generalize expF (d.take k) = n at *
      have g1 : (48 : Int) ≤ c.toNat := by omega
      have g2 : (c.toNat : Int) ≤ 57 := by omega
      clear hdg
      go_wp2
      go_round
      case rel => exact ⟨k + 1, by omega, by go_num, by rw [HE.out]; first | rfl | rw [expS_if]⟩
      case measure => simp [intOf]; omega
    · have hT : d.take k = d := List.take_of_length_le (by omega)
      rw [hT] at bd ⊢
      clear hT
      generalize hn : expF d = n at *
      have HN := Lib.hid hn
      clear hn
      go_wp2
      go_ret2
      exact ⟨by simp [HN.out], X.out⟩

theorem readExponent_any (s : List UInt8) (hl : s.length ≤ 1000) (w : World) :
    Calls Tryz.prog 105 #[.string (bs s)] w fun e w' => e = .returned (.tuple #[.int .i64 ((expV s).getD 0), .bool (expV s).isSome]) ∧ Ext w w' := by
  have l1 := cut1_le 45 s
  have l2 := cut1_le 43 s
  have hE : expV s = if digs (if (cut1 45 s).2 then (cut1 45 s).1 else (cut1 43 s).1) = [] ∨ rest (if (cut1 45 s).2 then (cut1 45 s).1 else (cut1 43 s).1) ≠ [] then none
      else some (if (cut1 45 s).2 then -(expF (if (cut1 45 s).2 then (cut1 45 s).1 else (cut1 43 s).1)) else expF (if (cut1 45 s).2 then (cut1 45 s).1 else (cut1 43 s).1)) := rfl
  rw [hE]
  cases hc : (cut1 45 s).2 with
  | true =>
    simp only [if_true]
    by_cases h1 : digs (cut1 45 s).1 = []
    · rw [if_pos (.inl h1)]; exact re_neg_none s _ (by omega) hc rfl h1 w
    · by_cases h2 : rest (cut1 45 s).1 = []
      · rw [if_neg (by intro h; rcases h with h | h; exact h1 h; exact h h2)]; exact re_neg_good s _ (by omega) hc rfl h1 h2 w
      · rw [if_pos (.inr h2)]; exact re_neg_more s _ (by omega) hc rfl h1 h2 w
  | false =>
    simp only [Bool.false_eq_true, if_false]
    by_cases h1 : digs (cut1 43 s).1 = []
    · rw [if_pos (.inl h1)]; exact re_pos_none s _ (by omega) hc rfl h1 w
    · by_cases h2 : rest (cut1 43 s).1 = []
      · rw [if_neg (by intro h; rcases h with h | h; exact h1 h; exact h h2)]; exact re_pos_good s _ (by omega) hc rfl h1 h2 w
      · rw [if_pos (.inr h2)]; exact re_pos_more s _ (by omega) hc rfl h1 h2 w
end Go.Proofs.YtogfiekbikechaaGreatDoor

namespace Go.Proofs.YtogfiekbikechaaGreatDoor
open Go.RowKit

/-- What read returns, whether the string is numeric or not. -/
structure Got where
  n : Num
  ok : Bool
def tailG (neg : Bool) (dd : List UInt8) (sc : Int) (ok1 : Bool) (s3 : List UInt8) : Got :=
  if (cut1 101 s3).2 then ⟨numOf neg dd (sc + (expV (cut1 101 s3).1).getD 0), ok1 && (expV (cut1 101 s3).1).isSome⟩
  else ⟨numOf neg dd sc, ok1 && decide (s3 = [])⟩
def readG (s : List UInt8) : Got :=
  let c := cut1 45 s
  let d := digs c.1
  let p := cut1 46 (rest c.1)
  if p.2 then tailG c.2 (d ++ digs p.1) (-((digs p.1).length : Int)) (decide (d ≠ []) && decide (digs p.1 ≠ [])) (rest p.1)
  else tailG c.2 d 0 (decide (d ≠ [])) (rest c.1)
theorem tail_some {neg ok1 : Bool} {dd : List UInt8} {sc : Int} {s3 : List UInt8} (h : ok1 = true) : (tailV neg dd sc s3).isSome = (tailG neg dd sc ok1 s3).ok ∧ (∀ n, tailV neg dd sc s3 = some n → (tailG neg dd sc ok1 s3).n = n) := by
  subst h
  unfold tailV tailG
  simp only [Bool.true_and]
  cases hc : (cut1 101 s3).2 with
  | true =>
    simp only [if_true]
    cases he : expV (cut1 101 s3).1 with
    | none => simp
    | some e => simp
  | false =>
    simp only [Bool.false_eq_true, if_false]
    by_cases h3 : s3 = []
    · simp [h3]
    · simp [h3]
theorem readG_readV {s : List UInt8} (h : s.length ≤ 60) : (readV s).isSome = (readG s).ok ∧ (∀ n, readV s = some n → (readG s).n = n) := by
  unfold readV readG
  simp only
  rw [if_neg (by omega)]
  by_cases hd : digs (cut1 45 s).1 = []
  · rw [if_pos hd]
    constructor
    · cases (cut1 46 (rest (cut1 45 s).1)).2 <;> simp [tailG, hd] <;> split <;> simp
    · intro n hn; cases hn
  · rw [if_neg hd]
    cases hp : (cut1 46 (rest (cut1 45 s).1)).2 with
    | false =>
      simp only [Bool.false_eq_true, if_false]
      exact tail_some (by simp [hd])
    | true =>
      simp only [if_true]
      by_cases hf : digs (cut1 46 (rest (cut1 45 s).1)).1 = []
      · rw [if_pos hf]
        constructor
        · simp [tailG, hf]; split <;> simp
        · intro n hn; cases hn
      · rw [if_neg hf]
        exact tail_some (by simp [hd, hf])
end Go.Proofs.YtogfiekbikechaaGreatDoor
