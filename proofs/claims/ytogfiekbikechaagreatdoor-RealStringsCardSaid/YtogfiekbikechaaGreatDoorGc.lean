/- Layer 2: rounding: plain facts (no program here). -/
/- Layer 2: rounding, as the program does it. -/
/- Layer 2: rounding: what the program's rounded gives. -/
/- Layer 2: what the program's rounded gives, or that it panics. -/
import Derived.Test.YtogfiekbikechaaGreatDoorGb
import Derived.Lib.Hide
import Derived.Outline
namespace Go.Proofs.YtogfiekbikechaaGreatDoor
open Go.RowKit

/-- How many bits are dropped. -/
def dropV (man : Nat) (exp : Int) : Int := max ((nb man : Int) - 24) (-150 - exp)
theorem short_none {man : Nat} {exp : Int} {more : Bool} (h : dropV man exp ≤ 0) : shortV man exp more = (man * 2 ^ (-(dropV man exp)).toNat, exp + dropV man exp) := by
  unfold shortV; simp only; rw [if_pos (show max ((nb man : Int) - 24) (-150 - exp) ≤ 0 from h)]; rfl
theorem short_far {man : Nat} {exp : Int} {more : Bool} (h : 64 < dropV man exp) : shortV man exp more = (0, 0) := by
  unfold shortV; simp only; rw [if_neg (show ¬ max ((nb man : Int) - 24) (-150 - exp) ≤ 0 by unfold dropV at h; omega), if_pos (show 64 < max ((nb man : Int) - 24) (-150 - exp) from h)]
def upB (man D : Nat) (more : Bool) : Bool := decide (2 ^ (D - 1) < man % 2 ^ D) || (decide (man % 2 ^ D = 2 ^ (D - 1)) && (more || man / 2 ^ D % 2 == 1))
theorem short_at {man D : Nat} {exp : Int} {more : Bool} (h : dropV man exp = D) (h1 : 1 ≤ D) (h2 : D ≤ 64) :
    shortV man exp more = if (if upB man D more then man / 2 ^ D + 1 else man / 2 ^ D) = 16777216 then (8388608, exp + D + 1) else (if upB man D more then man / 2 ^ D + 1 else man / 2 ^ D, exp + D) := by
  have e : max ((nb man : Int) - 24) (-150 - exp) = D := h
  unfold shortV; simp only
  rw [e, if_neg (by omega), if_neg (by omega)]
  simp only [Int.toNat_natCast]
  rfl
theorem keep_lt {man D : Nat} (h : (nb man : Int) - 24 ≤ D) : man / 2 ^ D < 16777216 := by
  by_cases h0 : man = 0
  · subst h0; simp
  · obtain ⟨a, b, c⟩ := nb_lo h0
    refine Nat.div_lt_of_lt_mul ?_
    calc man < 2 ^ nb man := c
      _ ≤ 2 ^ (D + 24) := Nat.pow_le_pow_right (by omega) (by omega)
      _ = 2 ^ D * 16777216 := by rw [Nat.pow_add]
theorem grow_lt {man : Nat} {d : Int} (h : (nb man : Int) - 24 ≤ d) (hd : d ≤ 0) : man * 2 ^ (-d).toNat < 16777216 := by
  by_cases h0 : man = 0
  · subst h0; simp
  · obtain ⟨a, b, c⟩ := nb_lo h0
    calc man * 2 ^ (-d).toNat < 2 ^ nb man * 2 ^ (-d).toNat := Nat.mul_lt_mul_of_pos_right c (Nat.pow_pos (by omega))
      _ = 2 ^ (nb man + (-d).toNat) := (Nat.pow_add _ _ _).symm
      _ ≤ 2 ^ 24 := Nat.pow_le_pow_right (by omega) (by omega)
      _ = 16777216 := by decide
theorem short_bound {man : Nat} {exp : Int} (more : Bool) : (shortV man exp more).1 < 16777216 := by
  have hn : (nb man : Int) - 24 ≤ dropV man exp := by unfold dropV; omega
  by_cases h1 : dropV man exp ≤ 0
  · rw [short_none h1]; exact grow_lt hn h1
  · by_cases h2 : 64 < dropV man exp
    · rw [short_far h2]; decide
    · obtain ⟨D, hD⟩ : ∃ D : Nat, dropV man exp = D := ⟨(dropV man exp).toNat, by omega⟩
      have k := keep_lt (man := man) (D := D) (by omega)
      rw [short_at hD (by omega) (by omega)]
      generalize man / 2 ^ D = K at *
      cases upB man D more
      · simp only [Bool.false_eq_true, if_false]
        rw [if_neg (by omega)]; exact k
      · simp only [if_true]
        by_cases h : K + 1 = 16777216
        · rw [if_pos h]; show (8388608 : Nat) < 16777216; omega
        · rw [if_neg h]; show K + 1 < 16777216; omega
end Go.Proofs.YtogfiekbikechaaGreatDoor

namespace Go.Proofs.YtogfiekbikechaaGreatDoor
open Go.RowKit

set_option maxRecDepth 100000 in
set_option maxHeartbeats 2000000 in
theorem sh_none (neg more : Bool) (man : Nat) (exp : Int) (hm : man < 18446744073709551616) (he : -1000000 ≤ exp) (he2 : exp ≤ 1000000) (d V1 V2 : Int) (w : World) (hn : nb man ≤ 64)
    (hd : max ((nb man : Int) - 24) (-150 - exp) = d) (hd0 : d ≤ 0) (hd1 : -2000000 ≤ d) (hV : wrap64 (IntKind.u64.wrap ((man : Int) * 2 ^ (-d).toNat)) = V1) (hV2 : exp + d = V2) :
    Calls Tryz.prog 94 #[.agg #[.bool neg, .int .u64 man, .int .i64 exp, .bool more]] w fun e w' => e = .returned (.tuple #[.int .i64 V1, .int .i64 V2]) ∧ Ext w w' := by
  go_enter Tryz.func94, Tryz.ntmps94
  go_wp2
  go_quiet ((go_at_call 122; exact quietL (len64_any _ hm _)))
  go_wp2
  go_quiet (fail)
  go_wp2
  go_ret2
  exact ⟨by simp [hV], (by repeat (first | with_reducible exact Ext.refl _ | with_reducible refine Ext.drewN ?_ _ | with_reducible refine Ext.drew ?_ | with_reducible refine Ext.alloc ?_ _))⟩

set_option maxRecDepth 100000 in
set_option maxHeartbeats 2000000 in
theorem sh_far (neg more : Bool) (man : Nat) (exp : Int) (hm : man < 18446744073709551616) (he : -1000000 ≤ exp) (he2 : exp ≤ 1000000) (d : Int) (w : World) (hn : nb man ≤ 64)
    (hd : max ((nb man : Int) - 24) (-150 - exp) = d) (hd0 : 64 < d) (hd1 : d ≤ 2000000) :
    Calls Tryz.prog 94 #[.agg #[.bool neg, .int .u64 man, .int .i64 exp, .bool more]] w fun e w' => e = .returned (.tuple #[.int .i64 0, .int .i64 0]) ∧ Ext w w' := by
  have hd2 : ¬ d ≤ 0 := by omega
  go_enter Tryz.func94, Tryz.ntmps94
  go_wp2
  go_quiet ((go_at_call 122; exact quietL (len64_any _ hm _)))
  go_wp2
  go_ret2
  exact ⟨rfl, (by repeat (first | with_reducible exact Ext.refl _ | with_reducible refine Ext.drewN ?_ _ | with_reducible refine Ext.drew ?_ | with_reducible refine Ext.alloc ?_ _))⟩

set_option maxRecDepth 100000 in
set_option maxHeartbeats 2000000 in
theorem sh_af (neg more : Bool) (man : Nat) (exp : Int) (hm : man < 18446744073709551616) (he : -1000000 ≤ exp) (he2 : exp ≤ 1000000) (D K R H M : Nat) (V1 V2 : Int) (w : World) (hn : nb man ≤ 64)
    (hd : max ((nb man : Int) - 24) (-150 - exp) = (D : Int)) (hd0 : 1 ≤ D) (hd1 : D ≤ 64) (e1 : (man : Int) / 2 ^ D = (K : Int)) (e2 : IntKind.u64.wrap (2 ^ (D - 1)) = (H : Int)) (e3 : IntKind.u64.wrap ((K : Int) * 2 ^ D) = (M : Int))
    (e4 : IntKind.u64.wrap ((man : Int) - (M : Int)) = (R : Int)) (e5 : IntKind.u64.wrap ((K : Int) + 1) = (K : Int) + 1) (hK : K < 16777216) (hc : H < R) (hf : (((K : Int) + 1) == 16777216) = true)
    (hV : V1 = 8388608) (hV2 : V2 = exp + (D : Int) + 1) :
    Calls Tryz.prog 94 #[.agg #[.bool neg, .int .u64 man, .int .i64 exp, .bool more]] w fun e w' => e = .returned (.tuple #[.int .i64 V1, .int .i64 V2]) ∧ Ext w w' := by
  have hd2 : ¬ ((D : Int) ≤ 0) := by omega
  have hd3 : ¬ ((64 : Int) < D) := by omega
  have hd4 : (0 : Int) ≤ (D : Int) - 1 := by omega
  have hd5 : (0 : Int) ≤ D := by omega
  have hd6 : (D : Int) ≤ 64 := by omega
  have hK2 : (K : Int) ≤ 16777215 := by omega
  subst hV hV2
  go_enter Tryz.func94, Tryz.ntmps94
  go_wp2
  go_quiet ((go_at_call 122; exact quietL (len64_any _ hm _)))
  go_wp2
  go_quiet (fail)
  go_wp2
  go_quiet (fail)
  go_wp2
  go_quiet (fail)
  go_wp2
  go_ret2
  exact ⟨rfl, (by repeat (first | with_reducible exact Ext.refl _ | with_reducible refine Ext.drewN ?_ _ | with_reducible refine Ext.drew ?_ | with_reducible refine Ext.alloc ?_ _))⟩

set_option maxRecDepth 100000 in
set_option maxHeartbeats 2000000 in
theorem sh_a (neg more : Bool) (man : Nat) (exp : Int) (hm : man < 18446744073709551616) (he : -1000000 ≤ exp) (he2 : exp ≤ 1000000) (D K R H M : Nat) (V1 V2 : Int) (w : World) (hn : nb man ≤ 64)
    (hd : max ((nb man : Int) - 24) (-150 - exp) = (D : Int)) (hd0 : 1 ≤ D) (hd1 : D ≤ 64) (e1 : (man : Int) / 2 ^ D = (K : Int)) (e2 : IntKind.u64.wrap (2 ^ (D - 1)) = (H : Int)) (e3 : IntKind.u64.wrap ((K : Int) * 2 ^ D) = (M : Int))
    (e4 : IntKind.u64.wrap ((man : Int) - (M : Int)) = (R : Int)) (e5 : IntKind.u64.wrap ((K : Int) + 1) = (K : Int) + 1) (hK : K < 16777216) (hc : H < R) (hf : (((K : Int) + 1) == 16777216) = false)
    (hV : V1 = (K : Int) + 1) (hV2 : V2 = exp + (D : Int)) :
    Calls Tryz.prog 94 #[.agg #[.bool neg, .int .u64 man, .int .i64 exp, .bool more]] w fun e w' => e = .returned (.tuple #[.int .i64 V1, .int .i64 V2]) ∧ Ext w w' := by
  have hd2 : ¬ ((D : Int) ≤ 0) := by omega
  have hd3 : ¬ ((64 : Int) < D) := by omega
  have hd4 : (0 : Int) ≤ (D : Int) - 1 := by omega
  have hd5 : (0 : Int) ≤ D := by omega
  have hd6 : (D : Int) ≤ 64 := by omega
  have hK2 : (K : Int) ≤ 16777215 := by omega
  subst hV hV2
  go_enter Tryz.func94, Tryz.ntmps94
  go_wp2
  go_quiet ((go_at_call 122; exact quietL (len64_any _ hm _)))
  go_wp2
  go_quiet (fail)
  go_wp2
  go_quiet (fail)
  go_wp2
  go_quiet (fail)
  go_wp2
  go_ret2
  exact ⟨rfl, (by repeat (first | with_reducible exact Ext.refl _ | with_reducible refine Ext.drewN ?_ _ | with_reducible refine Ext.drew ?_ | with_reducible refine Ext.alloc ?_ _))⟩

set_option maxRecDepth 100000 in
set_option maxHeartbeats 2000000 in
theorem sh_bf (neg more : Bool) (man : Nat) (exp : Int) (hm : man < 18446744073709551616) (he : -1000000 ≤ exp) (he2 : exp ≤ 1000000) (D K R H M : Nat) (V1 V2 : Int) (w : World) (hn : nb man ≤ 64)
    (hd : max ((nb man : Int) - 24) (-150 - exp) = (D : Int)) (hd0 : 1 ≤ D) (hd1 : D ≤ 64) (e1 : (man : Int) / 2 ^ D = (K : Int)) (e2 : IntKind.u64.wrap (2 ^ (D - 1)) = (H : Int)) (e3 : IntKind.u64.wrap ((K : Int) * 2 ^ D) = (M : Int))
    (e4 : IntKind.u64.wrap ((man : Int) - (M : Int)) = (R : Int)) (e5 : IntKind.u64.wrap ((K : Int) + 1) = (K : Int) + 1) (hK : K < 16777216) (hc : ¬ H < R) (hc2 : ((R : Int) == (H : Int)) = true) (hc3 : more = true) (hf : (((K : Int) + 1) == 16777216) = true)
    (hV : V1 = 8388608) (hV2 : V2 = exp + (D : Int) + 1) :
    Calls Tryz.prog 94 #[.agg #[.bool neg, .int .u64 man, .int .i64 exp, .bool more]] w fun e w' => e = .returned (.tuple #[.int .i64 V1, .int .i64 V2]) ∧ Ext w w' := by
  have hd2 : ¬ ((D : Int) ≤ 0) := by omega
  have hd3 : ¬ ((64 : Int) < D) := by omega
  have hd4 : (0 : Int) ≤ (D : Int) - 1 := by omega
  have hd5 : (0 : Int) ≤ D := by omega
  have hd6 : (D : Int) ≤ 64 := by omega
  have hK2 : (K : Int) ≤ 16777215 := by omega
  subst hV hV2 hc3
  go_enter Tryz.func94, Tryz.ntmps94
  go_wp2
  go_quiet ((go_at_call 122; exact quietL (len64_any _ hm _)))
  go_wp2
  go_quiet (fail)
  go_wp2
  go_quiet (fail)
  go_wp2
  go_quiet (fail)
  go_wp2
  go_ret2
  exact ⟨rfl, (by repeat (first | with_reducible exact Ext.refl _ | with_reducible refine Ext.drewN ?_ _ | with_reducible refine Ext.drew ?_ | with_reducible refine Ext.alloc ?_ _))⟩

set_option maxRecDepth 100000 in
set_option maxHeartbeats 2000000 in
theorem sh_b (neg more : Bool) (man : Nat) (exp : Int) (hm : man < 18446744073709551616) (he : -1000000 ≤ exp) (he2 : exp ≤ 1000000) (D K R H M : Nat) (V1 V2 : Int) (w : World) (hn : nb man ≤ 64)
    (hd : max ((nb man : Int) - 24) (-150 - exp) = (D : Int)) (hd0 : 1 ≤ D) (hd1 : D ≤ 64) (e1 : (man : Int) / 2 ^ D = (K : Int)) (e2 : IntKind.u64.wrap (2 ^ (D - 1)) = (H : Int)) (e3 : IntKind.u64.wrap ((K : Int) * 2 ^ D) = (M : Int))
    (e4 : IntKind.u64.wrap ((man : Int) - (M : Int)) = (R : Int)) (e5 : IntKind.u64.wrap ((K : Int) + 1) = (K : Int) + 1) (hK : K < 16777216) (hc : ¬ H < R) (hc2 : ((R : Int) == (H : Int)) = true) (hc3 : more = true) (hf : (((K : Int) + 1) == 16777216) = false)
    (hV : V1 = (K : Int) + 1) (hV2 : V2 = exp + (D : Int)) :
    Calls Tryz.prog 94 #[.agg #[.bool neg, .int .u64 man, .int .i64 exp, .bool more]] w fun e w' => e = .returned (.tuple #[.int .i64 V1, .int .i64 V2]) ∧ Ext w w' := by
  have hd2 : ¬ ((D : Int) ≤ 0) := by omega
  have hd3 : ¬ ((64 : Int) < D) := by omega
  have hd4 : (0 : Int) ≤ (D : Int) - 1 := by omega
  have hd5 : (0 : Int) ≤ D := by omega
  have hd6 : (D : Int) ≤ 64 := by omega
  have hK2 : (K : Int) ≤ 16777215 := by omega
  subst hV hV2 hc3
  go_enter Tryz.func94, Tryz.ntmps94
  go_wp2
  go_quiet ((go_at_call 122; exact quietL (len64_any _ hm _)))
  go_wp2
  go_quiet (fail)
  go_wp2
  go_quiet (fail)
  go_wp2
  go_quiet (fail)
  go_wp2
  go_ret2
  exact ⟨rfl, (by repeat (first | with_reducible exact Ext.refl _ | with_reducible refine Ext.drewN ?_ _ | with_reducible refine Ext.drew ?_ | with_reducible refine Ext.alloc ?_ _))⟩

set_option maxRecDepth 100000 in
set_option maxHeartbeats 2000000 in
theorem sh_cf (neg more : Bool) (man : Nat) (exp : Int) (hm : man < 18446744073709551616) (he : -1000000 ≤ exp) (he2 : exp ≤ 1000000) (D K R H M : Nat) (V1 V2 : Int) (w : World) (hn : nb man ≤ 64)
    (hd : max ((nb man : Int) - 24) (-150 - exp) = (D : Int)) (hd0 : 1 ≤ D) (hd1 : D ≤ 64) (e1 : (man : Int) / 2 ^ D = (K : Int)) (e2 : IntKind.u64.wrap (2 ^ (D - 1)) = (H : Int)) (e3 : IntKind.u64.wrap ((K : Int) * 2 ^ D) = (M : Int))
    (e4 : IntKind.u64.wrap ((man : Int) - (M : Int)) = (R : Int)) (e5 : IntKind.u64.wrap ((K : Int) + 1) = (K : Int) + 1) (hK : K < 16777216) (hc : ¬ H < R) (hc2 : ((R : Int) == (H : Int)) = true) (hc3 : more = false) (hc4 : ((K : Int) % 2 == 1) = true) (hf : (((K : Int) + 1) == 16777216) = true)
    (hV : V1 = 8388608) (hV2 : V2 = exp + (D : Int) + 1) :
    Calls Tryz.prog 94 #[.agg #[.bool neg, .int .u64 man, .int .i64 exp, .bool more]] w fun e w' => e = .returned (.tuple #[.int .i64 V1, .int .i64 V2]) ∧ Ext w w' := by
  have hd2 : ¬ ((D : Int) ≤ 0) := by omega
  have hd3 : ¬ ((64 : Int) < D) := by omega
  have hd4 : (0 : Int) ≤ (D : Int) - 1 := by omega
  have hd5 : (0 : Int) ≤ D := by omega
  have hd6 : (D : Int) ≤ 64 := by omega
  have hK2 : (K : Int) ≤ 16777215 := by omega
  subst hV hV2 hc3
  go_enter Tryz.func94, Tryz.ntmps94
  go_wp2
  go_quiet ((go_at_call 122; exact quietL (len64_any _ hm _)))
  go_wp2
  go_quiet (fail)
  go_wp2
  go_quiet (fail)
  go_wp2
  go_quiet (fail)
  go_wp2
  go_ret2
  exact ⟨rfl, (by repeat (first | with_reducible exact Ext.refl _ | with_reducible refine Ext.drewN ?_ _ | with_reducible refine Ext.drew ?_ | with_reducible refine Ext.alloc ?_ _))⟩

set_option maxRecDepth 100000 in
set_option maxHeartbeats 2000000 in
theorem sh_c (neg more : Bool) (man : Nat) (exp : Int) (hm : man < 18446744073709551616) (he : -1000000 ≤ exp) (he2 : exp ≤ 1000000) (D K R H M : Nat) (V1 V2 : Int) (w : World) (hn : nb man ≤ 64)
    (hd : max ((nb man : Int) - 24) (-150 - exp) = (D : Int)) (hd0 : 1 ≤ D) (hd1 : D ≤ 64) (e1 : (man : Int) / 2 ^ D = (K : Int)) (e2 : IntKind.u64.wrap (2 ^ (D - 1)) = (H : Int)) (e3 : IntKind.u64.wrap ((K : Int) * 2 ^ D) = (M : Int))
    (e4 : IntKind.u64.wrap ((man : Int) - (M : Int)) = (R : Int)) (e5 : IntKind.u64.wrap ((K : Int) + 1) = (K : Int) + 1) (hK : K < 16777216) (hc : ¬ H < R) (hc2 : ((R : Int) == (H : Int)) = true) (hc3 : more = false) (hc4 : ((K : Int) % 2 == 1) = true) (hf : (((K : Int) + 1) == 16777216) = false)
    (hV : V1 = (K : Int) + 1) (hV2 : V2 = exp + (D : Int)) :
    Calls Tryz.prog 94 #[.agg #[.bool neg, .int .u64 man, .int .i64 exp, .bool more]] w fun e w' => e = .returned (.tuple #[.int .i64 V1, .int .i64 V2]) ∧ Ext w w' := by
  have hd2 : ¬ ((D : Int) ≤ 0) := by omega
  have hd3 : ¬ ((64 : Int) < D) := by omega
  have hd4 : (0 : Int) ≤ (D : Int) - 1 := by omega
  have hd5 : (0 : Int) ≤ D := by omega
  have hd6 : (D : Int) ≤ 64 := by omega
  have hK2 : (K : Int) ≤ 16777215 := by omega
  subst hV hV2 hc3
  go_enter Tryz.func94, Tryz.ntmps94
  go_wp2
  go_quiet ((go_at_call 122; exact quietL (len64_any _ hm _)))
  go_wp2
  go_quiet (fail)
  go_wp2
  go_quiet (fail)
  go_wp2
  go_quiet (fail)
  go_wp2
  go_ret2
  exact ⟨rfl, (by repeat (first | with_reducible exact Ext.refl _ | with_reducible refine Ext.drewN ?_ _ | with_reducible refine Ext.drew ?_ | with_reducible refine Ext.alloc ?_ _))⟩

set_option maxRecDepth 100000 in
set_option maxHeartbeats 2000000 in
theorem sh_d (neg more : Bool) (man : Nat) (exp : Int) (hm : man < 18446744073709551616) (he : -1000000 ≤ exp) (he2 : exp ≤ 1000000) (D K R H M : Nat) (V1 V2 : Int) (w : World) (hn : nb man ≤ 64)
    (hd : max ((nb man : Int) - 24) (-150 - exp) = (D : Int)) (hd0 : 1 ≤ D) (hd1 : D ≤ 64) (e1 : (man : Int) / 2 ^ D = (K : Int)) (e2 : IntKind.u64.wrap (2 ^ (D - 1)) = (H : Int)) (e3 : IntKind.u64.wrap ((K : Int) * 2 ^ D) = (M : Int))
    (e4 : IntKind.u64.wrap ((man : Int) - (M : Int)) = (R : Int)) (e5 : IntKind.u64.wrap ((K : Int) + 1) = (K : Int) + 1) (hK : K < 16777216) (hc : ¬ H < R) (hc2 : ((R : Int) == (H : Int)) = true) (hc3 : more = false) (hc4 : ((K : Int) % 2 == 1) = false) (hf : ((K : Int) == 16777216) = false)
    (hV : V1 = (K : Int)) (hV2 : V2 = exp + (D : Int)) :
    Calls Tryz.prog 94 #[.agg #[.bool neg, .int .u64 man, .int .i64 exp, .bool more]] w fun e w' => e = .returned (.tuple #[.int .i64 V1, .int .i64 V2]) ∧ Ext w w' := by
  have hd2 : ¬ ((D : Int) ≤ 0) := by omega
  have hd3 : ¬ ((64 : Int) < D) := by omega
  have hd4 : (0 : Int) ≤ (D : Int) - 1 := by omega
  have hd5 : (0 : Int) ≤ D := by omega
  have hd6 : (D : Int) ≤ 64 := by omega
  have hK2 : (K : Int) ≤ 16777215 := by omega
  subst hV hV2 hc3
  go_enter Tryz.func94, Tryz.ntmps94
  go_wp2
  go_quiet ((go_at_call 122; exact quietL (len64_any _ hm _)))
  go_wp2
  go_quiet (fail)
  go_wp2
  go_quiet (fail)
  go_wp2
  go_quiet (fail)
  go_wp2
  go_ret2
  exact ⟨rfl, (by repeat (first | with_reducible exact Ext.refl _ | with_reducible refine Ext.drewN ?_ _ | with_reducible refine Ext.drew ?_ | with_reducible refine Ext.alloc ?_ _))⟩

set_option maxRecDepth 100000 in
set_option maxHeartbeats 2000000 in
theorem sh_e (neg more : Bool) (man : Nat) (exp : Int) (hm : man < 18446744073709551616) (he : -1000000 ≤ exp) (he2 : exp ≤ 1000000) (D K R H M : Nat) (V1 V2 : Int) (w : World) (hn : nb man ≤ 64)
    (hd : max ((nb man : Int) - 24) (-150 - exp) = (D : Int)) (hd0 : 1 ≤ D) (hd1 : D ≤ 64) (e1 : (man : Int) / 2 ^ D = (K : Int)) (e2 : IntKind.u64.wrap (2 ^ (D - 1)) = (H : Int)) (e3 : IntKind.u64.wrap ((K : Int) * 2 ^ D) = (M : Int))
    (e4 : IntKind.u64.wrap ((man : Int) - (M : Int)) = (R : Int)) (e5 : IntKind.u64.wrap ((K : Int) + 1) = (K : Int) + 1) (hK : K < 16777216) (hc : ¬ H < R) (hc2 : ((R : Int) == (H : Int)) = false) (hf : ((K : Int) == 16777216) = false)
    (hV : V1 = (K : Int)) (hV2 : V2 = exp + (D : Int)) :
    Calls Tryz.prog 94 #[.agg #[.bool neg, .int .u64 man, .int .i64 exp, .bool more]] w fun e w' => e = .returned (.tuple #[.int .i64 V1, .int .i64 V2]) ∧ Ext w w' := by
  have hd2 : ¬ ((D : Int) ≤ 0) := by omega
  have hd3 : ¬ ((64 : Int) < D) := by omega
  have hd4 : (0 : Int) ≤ (D : Int) - 1 := by omega
  have hd5 : (0 : Int) ≤ D := by omega
  have hd6 : (D : Int) ≤ 64 := by omega
  have hK2 : (K : Int) ≤ 16777215 := by omega
  subst hV hV2
  go_enter Tryz.func94, Tryz.ntmps94
  go_wp2
  go_quiet ((go_at_call 122; exact quietL (len64_any _ hm _)))
  go_wp2
  go_quiet (fail)
  go_wp2
  go_quiet (fail)
  go_wp2
  go_quiet (fail)
  go_wp2
  go_ret2
  exact ⟨rfl, (by repeat (first | with_reducible exact Ext.refl _ | with_reducible refine Ext.drewN ?_ _ | with_reducible refine Ext.drew ?_ | with_reducible refine Ext.alloc ?_ _))⟩

end Go.Proofs.YtogfiekbikechaaGreatDoor

namespace Go.Proofs.YtogfiekbikechaaGreatDoor
open Go.RowKit

theorem nb_le {man : Nat} (hm : man < 18446744073709551616) : nb man ≤ 64 := nb_le64 hm
theorem shortened_any (neg more : Bool) (man : Nat) (exp : Int) (hm : man < 18446744073709551616) (he : -1000000 ≤ exp) (he2 : exp ≤ 1000000) (w : World) :
    Calls Tryz.prog 94 #[.agg #[.bool neg, .int .u64 man, .int .i64 exp, .bool more]] w fun e w' => e = .returned (.tuple #[.int .i64 (shortV man exp more).1, .int .i64 (shortV man exp more).2]) ∧ Ext w w' := by
  have hn := nb_le64 hm
  have hd : max ((nb man : Int) - 24) (-150 - exp) = dropV man exp := rfl
  have hlo : (nb man : Int) - 24 ≤ dropV man exp := by unfold dropV; omega
  have hhi : dropV man exp ≤ 2000000 := by unfold dropV; omega
  have hlo2 : -2000000 ≤ dropV man exp := by omega
  by_cases h1 : dropV man exp ≤ 0
  · have hg := grow_lt hlo h1
    rw [short_none h1]
    generalize dropV man exp = d at *
    refine sh_none neg more man exp hm he he2 d _ _ w hn hd h1 hlo2 ?_ rfl
    have e : (man : Int) * 2 ^ (-d).toNat = ((man * 2 ^ (-d).toNat : Nat) : Int) := by simp
    rw [e]
    generalize man * 2 ^ (-d).toNat = x at *
    rw [IntWalk.u64_in _ ⟨by omega, by omega⟩]
    unfold wrap64
    omega
  · by_cases h2 : 64 < dropV man exp
    · rw [short_far h2]
      exact sh_far neg more man exp hm he he2 _ w hn hd h2 hhi
    · obtain ⟨D, hD⟩ : ∃ D : Nat, dropV man exp = D := ⟨(dropV man exp).toNat, by omega⟩
      have g1 : 1 ≤ D := by omega
      have g2 : D ≤ 64 := by omega
      have k := keep_lt (man := man) (D := D) (by omega)
      rw [short_at hD g1 g2]
      rw [hD] at hd
      have hH : 2 ^ (D - 1) < 18446744073709551616 := Nat.lt_of_le_of_lt (Nat.pow_le_pow_right (by omega) (show D - 1 ≤ 63 by omega)) (by decide)
      have hR : man % 2 ^ D ≤ man := Nat.mod_le _ _
      have hM := Nat.div_add_mod man (2 ^ D)
      rw [Nat.mul_comm] at hM
      have e1 : (man : Int) / 2 ^ D = ((man / 2 ^ D : Nat) : Int) := by simp
      have e2 : IntKind.u64.wrap (2 ^ (D - 1)) = ((2 ^ (D - 1) : Nat) : Int) := by
        have e : (2 : Int) ^ (D - 1) = ((2 ^ (D - 1) : Nat) : Int) := by simp
        rw [e]
        generalize 2 ^ (D - 1) = H at hH ⊢
        exact IntWalk.u64_in _ ⟨by omega, by omega⟩
      have e3 : IntKind.u64.wrap (((man / 2 ^ D : Nat) : Int) * 2 ^ D) = ((man / 2 ^ D * 2 ^ D : Nat) : Int) := by
        have e : ((man / 2 ^ D : Nat) : Int) * 2 ^ D = ((man / 2 ^ D * 2 ^ D : Nat) : Int) := by simp
        rw [e]; exact IntWalk.u64_in _ ⟨by omega, by omega⟩
      have e4 : IntKind.u64.wrap ((man : Int) - ((man / 2 ^ D * 2 ^ D : Nat) : Int)) = ((man % 2 ^ D : Nat) : Int) := by
        rw [show (man : Int) - ((man / 2 ^ D * 2 ^ D : Nat) : Int) = ((man % 2 ^ D : Nat) : Int) by omega]
        exact IntWalk.u64_in _ ⟨by omega, by omega⟩
      unfold upB
      generalize man / 2 ^ D * 2 ^ D = M at *
      generalize man / 2 ^ D = K at *
      generalize man % 2 ^ D = R at *
      generalize 2 ^ (D - 1) = H at *
      have e5 : IntKind.u64.wrap ((K : Int) + 1) = (K : Int) + 1 := IntWalk.u64_in _ ⟨by omega, by omega⟩
      have fK : ((K : Int) == 16777216) = false := by rw [beq_eq_false_iff_ne]; omega
      have nK : ¬ K = 16777216 := by omega
      generalize hu : (decide (H < R) || (decide (R = H) && (more || K % 2 == 1))) = u
      have fin : ∀ (V : Nat × Int) (w : World), (∀ V1 V2 : Int, V1 = V.1 → V2 = V.2 → Calls Tryz.prog 94 #[.agg #[.bool neg, .int .u64 man, .int .i64 exp, .bool more]] w fun e w' => e = .returned (.tuple #[.int .i64 V1, .int .i64 V2]) ∧ Ext w w') →
        Calls Tryz.prog 94 #[.agg #[.bool neg, .int .u64 man, .int .i64 exp, .bool more]] w fun e w' => e = .returned (.tuple #[.int .i64 V.1, .int .i64 V.2]) ∧ Ext w w' := fun V w h => h _ _ rfl rfl
      refine fin _ w fun V1 V2 hV1 hV2 => ?_
      clear fin
      have up1 : u = true → K + 1 = 16777216 → V1 = 8388608 ∧ V2 = exp + (D : Int) + 1 := fun h hf => by
        rw [h] at hV1 hV2; simp only [if_true] at hV1 hV2; rw [if_pos hf] at hV1 hV2; exact ⟨hV1, hV2⟩
      have up2 : u = true → K + 1 ≠ 16777216 → V1 = (K : Int) + 1 ∧ V2 = exp + (D : Int) := fun h hf => by
        rw [h] at hV1 hV2; simp only [if_true] at hV1 hV2; rw [if_neg hf] at hV1 hV2; exact ⟨by rw [hV1]; simp, hV2⟩
      have dn : u = false → V1 = (K : Int) ∧ V2 = exp + (D : Int) := fun h => by
        rw [h] at hV1 hV2; simp only [Bool.false_eq_true, if_false] at hV1 hV2; rw [if_neg nK] at hV1 hV2; exact ⟨hV1, hV2⟩
      clear hV1 hV2
      have f1 : K + 1 = 16777216 → ((K : Int) + 1 == 16777216) = true := fun h => by rw [beq_iff_eq]; omega
      have f2 : K + 1 ≠ 16777216 → ((K : Int) + 1 == 16777216) = false := fun h => by rw [beq_eq_false_iff_ne]; omega
      by_cases hc : H < R
      · have hu1 : u = true := by rw [← hu]; simp [hc]
        by_cases hf : K + 1 = 16777216
        · exact sh_af neg more man exp hm he he2 D K R H M V1 V2 w hn hd g1 g2 e1 e2 e3 e4 e5 k hc (f1 hf) (up1 hu1 hf).1 (up1 hu1 hf).2
        · exact sh_a neg more man exp hm he he2 D K R H M V1 V2 w hn hd g1 g2 e1 e2 e3 e4 e5 k hc (f2 hf) (up2 hu1 hf).1 (up2 hu1 hf).2
      · by_cases hc2 : R = H
        · have b2 : ((R : Int) == (H : Int)) = true := by rw [hc2]; simp
          cases hm2 : more with
          | true =>
            subst hm2
            have hu1 : u = true := by rw [← hu]; simp [hc2]
            by_cases hf : K + 1 = 16777216
            · exact sh_bf neg true man exp hm he he2 D K R H M V1 V2 w hn hd g1 g2 e1 e2 e3 e4 e5 k hc b2 rfl (f1 hf) (up1 hu1 hf).1 (up1 hu1 hf).2
            · exact sh_b neg true man exp hm he he2 D K R H M V1 V2 w hn hd g1 g2 e1 e2 e3 e4 e5 k hc b2 rfl (f2 hf) (up2 hu1 hf).1 (up2 hu1 hf).2
          | false =>
            subst hm2
            by_cases ho : K % 2 = 1
            · have b4 : ((K : Int) % 2 == 1) = true := by rw [beq_iff_eq]; omega
              have hu1 : u = true := by rw [← hu]; simp [hc2, ho]
              by_cases hf : K + 1 = 16777216
              · exact sh_cf neg false man exp hm he he2 D K R H M V1 V2 w hn hd g1 g2 e1 e2 e3 e4 e5 k hc b2 rfl b4 (f1 hf) (up1 hu1 hf).1 (up1 hu1 hf).2
              · exact sh_c neg false man exp hm he he2 D K R H M V1 V2 w hn hd g1 g2 e1 e2 e3 e4 e5 k hc b2 rfl b4 (f2 hf) (up2 hu1 hf).1 (up2 hu1 hf).2
            · have b4 : ((K : Int) % 2 == 1) = false := by rw [beq_eq_false_iff_ne]; omega
              have hu1 : u = false := by rw [← hu]; simp [hc2, ho]
              exact sh_d neg false man exp hm he he2 D K R H M V1 V2 w hn hd g1 g2 e1 e2 e3 e4 e5 k hc b2 rfl b4 fK (dn hu1).1 (dn hu1).2
        · have b2 : ((R : Int) == (H : Int)) = false := by rw [beq_eq_false_iff_ne]; omega
          have hu1 : u = false := by rw [← hu]; simp [hc, hc2]
          exact sh_e neg more man exp hm he he2 D K R H M V1 V2 w hn hd g1 g2 e1 e2 e3 e4 e5 k hc b2 fK (dn hu1).1 (dn hu1).2
end Go.Proofs.YtogfiekbikechaaGreatDoor

namespace Go.Proofs.YtogfiekbikechaaGreatDoor
open Go.RowKit

/-- The panic of a rounding that has no value. -/
def RangePanic : Ending := .panicked [{ v := .iface 24 (.int .i64 3), recovered := false }]

set_option maxHeartbeats 1000000 in
theorem rd_zero (neg more : Bool) (man : Nat) (exp S2 : Int) (w : World) 
    (hs : ∀ w, Calls Tryz.prog 94 #[.agg #[.bool neg, .int .u64 man, .int .i64 exp, .bool more]] w fun e w' => e = .returned (.tuple #[.int .i64 0, .int .i64 S2]) ∧ Ext w w') :
    Calls Tryz.prog 53 #[.agg #[.bool neg, .int .u64 man, .int .i64 exp, .bool more]] w fun e w' => e = .returned (.agg #[.int .i64 0, .int .i64 0]) ∧ Ext w w' := by
  have HS := Lib.hid hs
  clear hs
  go_enter Tryz.func53, Tryz.ntmps53
  go_wp2_with fail
  refine (HS.out _).mono ?_
  rintro e w1 ⟨rfl, hx⟩
  have s1 := hx.size
  simp at s1
  have c0 : w1.cell? ⟨w.heap.size + 1, 0, none⟩ = some (.int .i64 0) := (hx.cell 0 (by simp)).trans (by simp [go_sem])
  have c1 : w1.cell? ⟨w.heap.size + 1, 1, none⟩ = some (.int .i64 0) := (hx.cell 1 (by simp)).trans (by simp [go_sem])
  have f0 : w1.frozen? ⟨w.heap.size + 1, 0, none⟩ = false := (hx.froz 0 (by simp)).trans (by simp [go_sem])
  have f1 : w1.frozen? ⟨w.heap.size + 1, 1, none⟩ = false := (hx.froz 1 (by simp)).trans (by simp [go_sem])
  have b0 : w1.cell? ⟨w.heap.size, 0, none⟩ = some (.bool neg) := (hx.cell 0 (by simp; omega)).trans (by simp [go_sem])
  have X := Lib.hid (((Ext.refl w).alloc (.cells #[.bool neg, .int .u64 man, .int .i64 exp, .bool more] 66)).alloc (.cells #[.int .i64 0, .int .i64 0] 23) |>.trans hx)
  clear hx s1
  go_wp2
  refine bodyPost_ret (v := .agg #[.int .i64 0, .int .i64 0]) ?_ rfl ⟨rfl, ?_⟩
  · simp [results, Tryz.results53, go_sem, c0, c1]
  · repeat (first | with_reducible exact X.out | with_reducible refine Ext.setCell ?_ (by simp) _)

set_option maxHeartbeats 1000000 in
theorem rd_range (neg more : Bool) (man : Nat) (exp S2 : Int) (w : World) (S1 : Int) (h0 : (S1 == 0) = false) (h2 : 150 < S2)
    (hs : ∀ w, Calls Tryz.prog 94 #[.agg #[.bool neg, .int .u64 man, .int .i64 exp, .bool more]] w fun e w' => e = .returned (.tuple #[.int .i64 S1, .int .i64 S2]) ∧ Ext w w') :
    Calls Tryz.prog 53 #[.agg #[.bool neg, .int .u64 man, .int .i64 exp, .bool more]] w fun e w' => e = RangePanic ∧ Ext w w' := by
  have HS := Lib.hid hs
  clear hs
  go_enter Tryz.func53, Tryz.ntmps53
  go_wp2_with fail
  refine (HS.out _).mono ?_
  rintro e w1 ⟨rfl, hx⟩
  have s1 := hx.size
  simp at s1
  have c0 : w1.cell? ⟨w.heap.size + 1, 0, none⟩ = some (.int .i64 0) := (hx.cell 0 (by simp)).trans (by simp [go_sem])
  have c1 : w1.cell? ⟨w.heap.size + 1, 1, none⟩ = some (.int .i64 0) := (hx.cell 1 (by simp)).trans (by simp [go_sem])
  have f0 : w1.frozen? ⟨w.heap.size + 1, 0, none⟩ = false := (hx.froz 0 (by simp)).trans (by simp [go_sem])
  have f1 : w1.frozen? ⟨w.heap.size + 1, 1, none⟩ = false := (hx.froz 1 (by simp)).trans (by simp [go_sem])
  have b0 : w1.cell? ⟨w.heap.size, 0, none⟩ = some (.bool neg) := (hx.cell 0 (by simp; omega)).trans (by simp [go_sem])
  have X := Lib.hid (((Ext.refl w).alloc (.cells #[.bool neg, .int .u64 man, .int .i64 exp, .bool more] 66)).alloc (.cells #[.int .i64 0, .int .i64 0] 23) |>.trans hx)
  clear hx s1
  go_wp2
  exact ⟨rfl, rfl, X.out⟩

set_option maxHeartbeats 1000000 in
theorem rd_pos (neg more : Bool) (man : Nat) (exp S2 : Int) (w : World) (S1 : Int) (h0 : (S1 == 0) = false) (h2 : ¬ 150 < S2) (hn : neg = false)
    (hs : ∀ w, Calls Tryz.prog 94 #[.agg #[.bool neg, .int .u64 man, .int .i64 exp, .bool more]] w fun e w' => e = .returned (.tuple #[.int .i64 S1, .int .i64 S2]) ∧ Ext w w') :
    Calls Tryz.prog 53 #[.agg #[.bool neg, .int .u64 man, .int .i64 exp, .bool more]] w fun e w' => e = .returned (.agg #[.int .i64 S1, .int .i64 S2]) ∧ Ext w w' := by
  subst hn
  have HS := Lib.hid hs
  clear hs
  go_enter Tryz.func53, Tryz.ntmps53
  go_wp2_with fail
  refine (HS.out _).mono ?_
  rintro e w1 ⟨rfl, hx⟩
  have s1 := hx.size
  simp at s1
  have c0 : w1.cell? ⟨w.heap.size + 1, 0, none⟩ = some (.int .i64 0) := (hx.cell 0 (by simp)).trans (by simp [go_sem])
  have c1 : w1.cell? ⟨w.heap.size + 1, 1, none⟩ = some (.int .i64 0) := (hx.cell 1 (by simp)).trans (by simp [go_sem])
  have f0 : w1.frozen? ⟨w.heap.size + 1, 0, none⟩ = false := (hx.froz 0 (by simp)).trans (by simp [go_sem])
  have f1 : w1.frozen? ⟨w.heap.size + 1, 1, none⟩ = false := (hx.froz 1 (by simp)).trans (by simp [go_sem])
  have b0 : w1.cell? ⟨w.heap.size, 0, none⟩ = some (.bool false) := (hx.cell 0 (by simp; omega)).trans (by simp [go_sem])
  have X := Lib.hid (((Ext.refl w).alloc (.cells #[.bool false, .int .u64 man, .int .i64 exp, .bool more] 66)).alloc (.cells #[.int .i64 0, .int .i64 0] 23) |>.trans hx)
  clear hx s1
  go_wp2
  refine bodyPost_ret (v := .agg #[.int .i64 S1, .int .i64 S2]) ?_ rfl ⟨rfl, ?_⟩
  · simp [results, Tryz.results53, go_sem, c0, c1]
  · repeat (first | with_reducible exact X.out | with_reducible refine Ext.setCell ?_ (by simp) _)

set_option maxHeartbeats 1000000 in
theorem rd_neg (neg more : Bool) (man : Nat) (exp S2 : Int) (w : World) (S1 : Int) (h0 : (S1 == 0) = false) (h2 : ¬ 150 < S2) (hn : neg = true) (l0 : 0 ≤ S1) (l1 : S1 ≤ 16777216)
    (hs : ∀ w, Calls Tryz.prog 94 #[.agg #[.bool neg, .int .u64 man, .int .i64 exp, .bool more]] w fun e w' => e = .returned (.tuple #[.int .i64 S1, .int .i64 S2]) ∧ Ext w w') :
    Calls Tryz.prog 53 #[.agg #[.bool neg, .int .u64 man, .int .i64 exp, .bool more]] w fun e w' => e = .returned (.agg #[.int .i64 (-S1), .int .i64 S2]) ∧ Ext w w' := by
  subst hn
  have HS := Lib.hid hs
  clear hs
  go_enter Tryz.func53, Tryz.ntmps53
  go_wp2_with fail
  refine (HS.out _).mono ?_
  rintro e w1 ⟨rfl, hx⟩
  have s1 := hx.size
  simp at s1
  have c0 : w1.cell? ⟨w.heap.size + 1, 0, none⟩ = some (.int .i64 0) := (hx.cell 0 (by simp)).trans (by simp [go_sem])
  have c1 : w1.cell? ⟨w.heap.size + 1, 1, none⟩ = some (.int .i64 0) := (hx.cell 1 (by simp)).trans (by simp [go_sem])
  have f0 : w1.frozen? ⟨w.heap.size + 1, 0, none⟩ = false := (hx.froz 0 (by simp)).trans (by simp [go_sem])
  have f1 : w1.frozen? ⟨w.heap.size + 1, 1, none⟩ = false := (hx.froz 1 (by simp)).trans (by simp [go_sem])
  have b0 : w1.cell? ⟨w.heap.size, 0, none⟩ = some (.bool true) := (hx.cell 0 (by simp; omega)).trans (by simp [go_sem])
  have X := Lib.hid (((Ext.refl w).alloc (.cells #[.bool true, .int .u64 man, .int .i64 exp, .bool more] 66)).alloc (.cells #[.int .i64 0, .int .i64 0] 23) |>.trans hx)
  clear hx s1
  go_wp2
  refine bodyPost_ret (v := .agg #[.int .i64 (-S1), .int .i64 S2]) ?_ rfl ⟨rfl, ?_⟩
  · simp [results, Tryz.results53, go_sem, c0, c1]
  · repeat (first | with_reducible exact X.out | with_reducible refine Ext.setCell ?_ (by simp) _)

theorem rounded_any (neg more : Bool) (man : Nat) (exp : Int) (hm : man < 18446744073709551616) (he : -1000000 ≤ exp) (he2 : exp ≤ 1000000) (w : World) :
    Calls Tryz.prog 53 #[.agg #[.bool neg, .int .u64 man, .int .i64 exp, .bool more]] w fun e w' =>
      (match roundV neg man exp more with | some (m, x) => e = .returned (.agg #[.int .i64 m, .int .i64 x]) | none => e = RangePanic) ∧ Ext w w' := by
  have hs := shortened_any neg more man exp hm he he2
  have hb := short_bound (man := man) (exp := exp) more
  unfold roundV
  simp only
  generalize shortV man exp more = S at *
  obtain ⟨S1, S2⟩ := S
  simp only at *
  by_cases h0 : S1 = 0
  · subst h0
    rw [if_pos rfl]
    exact rd_zero neg more man exp S2 w hs
  · have h0' : ((S1 : Int) == 0) = false := by rw [beq_eq_false_iff_ne]; omega
    rw [if_neg h0]
    by_cases h2 : 150 < S2
    · rw [if_pos h2]
      exact rd_range neg more man exp S2 w _ h0' h2 hs
    · rw [if_neg h2]
      cases hn : neg with
      | false =>
        subst hn
        simp only [Bool.false_eq_true, if_false]
        exact rd_pos false more man exp S2 w _ h0' h2 rfl hs
      | true =>
        subst hn
        simp only [if_true]
        exact rd_neg true more man exp S2 w _ h0' h2 rfl (by omega) (by omega) hs
end Go.Proofs.YtogfiekbikechaaGreatDoor
