/- Layer 2: rounding, as the program does it. -/
import Derived.Test.YtoeahfddnjbhbaaGreatDoorNk
import Derived.Test.YtoeahfddnjbhbaaGreatDoorGa
namespace Go.Proofs.YtoeahfddnjbhbaaGreatDoor
open Go.RowKit

set_option maxRecDepth 100000 in
set_option maxHeartbeats 2000000 in
theorem sh_none (neg more : Bool) (man : Nat) (exp : Int) (hm : man < 18446744073709551616) (he : -1000000 ≤ exp) (he2 : exp ≤ 1000000) (d V1 V2 : Int) (w : World) (hn : nb man ≤ 64)
    (hd : max ((nb man : Int) - 24) (-150 - exp) = d) (hd0 : d ≤ 0) (hd1 : -2000000 ≤ d) (hV : wrap64 (IntKind.u64.wrap ((man : Int) * 2 ^ (-d).toNat)) = V1) (hV2 : exp + d = V2) :
    Calls Tryz.prog 106 #[.agg #[.bool neg, .int .u64 man, .int .i64 exp, .bool more]] w fun e w' => e = .returned (.tuple #[.int .i64 V1, .int .i64 V2]) ∧ Ext w w' := by
  go_enter Tryz.func106, Tryz.ntmps106
  go_wp2
  go_quiet ((go_at_call 134; exact quietL (len64_any _ hm _)))
  go_wp2
  go_quiet (fail)
  go_wp2
  go_ret2
  exact ⟨by simp [hV, hV2], (by repeat (first | with_reducible exact Ext.refl _ | with_reducible refine Ext.drewN ?_ _ | with_reducible refine Ext.drew ?_ | with_reducible refine Ext.alloc ?_ _))⟩

set_option maxRecDepth 100000 in
set_option maxHeartbeats 2000000 in
theorem sh_far (neg more : Bool) (man : Nat) (exp : Int) (hm : man < 18446744073709551616) (he : -1000000 ≤ exp) (he2 : exp ≤ 1000000) (d : Int) (w : World) (hn : nb man ≤ 64)
    (hd : max ((nb man : Int) - 24) (-150 - exp) = d) (hd0 : 64 < d) (hd1 : d ≤ 2000000) :
    Calls Tryz.prog 106 #[.agg #[.bool neg, .int .u64 man, .int .i64 exp, .bool more]] w fun e w' => e = .returned (.tuple #[.int .i64 0, .int .i64 0]) ∧ Ext w w' := by
  have hd2 : ¬ d ≤ 0 := by omega
  go_enter Tryz.func106, Tryz.ntmps106
  go_wp2
  go_quiet ((go_at_call 134; exact quietL (len64_any _ hm _)))
  go_wp2
  go_ret2
  exact ⟨rfl, (by repeat (first | with_reducible exact Ext.refl _ | with_reducible refine Ext.drewN ?_ _ | with_reducible refine Ext.drew ?_ | with_reducible refine Ext.alloc ?_ _))⟩

set_option maxRecDepth 100000 in
set_option maxHeartbeats 2000000 in
theorem sh_af (neg more : Bool) (man : Nat) (exp : Int) (hm : man < 18446744073709551616) (he : -1000000 ≤ exp) (he2 : exp ≤ 1000000) (D K R H M : Nat) (V1 V2 : Int) (w : World) (hn : nb man ≤ 64)
    (hd : max ((nb man : Int) - 24) (-150 - exp) = (D : Int)) (hd0 : 1 ≤ D) (hd1 : D ≤ 64) (e1 : (man : Int) / 2 ^ D = (K : Int)) (e2 : IntKind.u64.wrap (2 ^ (D - 1)) = (H : Int)) (e3 : IntKind.u64.wrap ((K : Int) * 2 ^ D) = (M : Int))
    (e4 : IntKind.u64.wrap ((man : Int) - (M : Int)) = (R : Int)) (e5 : IntKind.u64.wrap ((K : Int) + 1) = (K : Int) + 1) (hK : K < 16777216) (hc : H < R) (hf : (((K : Int) + 1) == 16777216) = true)
    (hV : V1 = 8388608) (hV2 : V2 = exp + (D : Int) + 1) :
    Calls Tryz.prog 106 #[.agg #[.bool neg, .int .u64 man, .int .i64 exp, .bool more]] w fun e w' => e = .returned (.tuple #[.int .i64 V1, .int .i64 V2]) ∧ Ext w w' := by
  have hd2 : ¬ ((D : Int) ≤ 0) := by omega
  have hd3 : ¬ ((64 : Int) < D) := by omega
  have hd4 : (0 : Int) ≤ (D : Int) - 1 := by omega
  have hd5 : (0 : Int) ≤ D := by omega
  have hd6 : (D : Int) ≤ 64 := by omega
  have hK2 : (K : Int) ≤ 16777215 := by omega
  subst hV hV2
  go_enter Tryz.func106, Tryz.ntmps106
  go_wp2
  go_quiet ((go_at_call 134; exact quietL (len64_any _ hm _)))
  go_wp2
  go_quiet (fail)
  go_wp2
  go_quiet (fail)
  go_wp2
  go_quiet (fail)
  go_wp2
  go_ret2
  exact ⟨rfl, (by repeat (first | with_reducible exact Ext.refl _ | with_reducible refine Ext.drewN ?_ _ | with_reducible refine Ext.drew ?_ | with_reducible refine Ext.alloc ?_ _))⟩

set_option maxRecDepth 100000 in
set_option maxHeartbeats 2000000 in
theorem sh_a (neg more : Bool) (man : Nat) (exp : Int) (hm : man < 18446744073709551616) (he : -1000000 ≤ exp) (he2 : exp ≤ 1000000) (D K R H M : Nat) (V1 V2 : Int) (w : World) (hn : nb man ≤ 64)
    (hd : max ((nb man : Int) - 24) (-150 - exp) = (D : Int)) (hd0 : 1 ≤ D) (hd1 : D ≤ 64) (e1 : (man : Int) / 2 ^ D = (K : Int)) (e2 : IntKind.u64.wrap (2 ^ (D - 1)) = (H : Int)) (e3 : IntKind.u64.wrap ((K : Int) * 2 ^ D) = (M : Int))
    (e4 : IntKind.u64.wrap ((man : Int) - (M : Int)) = (R : Int)) (e5 : IntKind.u64.wrap ((K : Int) + 1) = (K : Int) + 1) (hK : K < 16777216) (hc : H < R) (hf : (((K : Int) + 1) == 16777216) = false)
    (hV : V1 = (K : Int) + 1) (hV2 : V2 = exp + (D : Int)) :
    Calls Tryz.prog 106 #[.agg #[.bool neg, .int .u64 man, .int .i64 exp, .bool more]] w fun e w' => e = .returned (.tuple #[.int .i64 V1, .int .i64 V2]) ∧ Ext w w' := by
  have hd2 : ¬ ((D : Int) ≤ 0) := by omega
  have hd3 : ¬ ((64 : Int) < D) := by omega
  have hd4 : (0 : Int) ≤ (D : Int) - 1 := by omega
  have hd5 : (0 : Int) ≤ D := by omega
  have hd6 : (D : Int) ≤ 64 := by omega
  have hK2 : (K : Int) ≤ 16777215 := by omega
  subst hV hV2
  go_enter Tryz.func106, Tryz.ntmps106
  go_wp2
  go_quiet ((go_at_call 134; exact quietL (len64_any _ hm _)))
  go_wp2
  go_quiet (fail)
  go_wp2
  go_quiet (fail)
  go_wp2
  go_quiet (fail)
  go_wp2
  go_ret2
  exact ⟨rfl, (by repeat (first | with_reducible exact Ext.refl _ | with_reducible refine Ext.drewN ?_ _ | with_reducible refine Ext.drew ?_ | with_reducible refine Ext.alloc ?_ _))⟩

set_option maxRecDepth 100000 in
set_option maxHeartbeats 2000000 in
theorem sh_bf (neg more : Bool) (man : Nat) (exp : Int) (hm : man < 18446744073709551616) (he : -1000000 ≤ exp) (he2 : exp ≤ 1000000) (D K R H M : Nat) (V1 V2 : Int) (w : World) (hn : nb man ≤ 64)
    (hd : max ((nb man : Int) - 24) (-150 - exp) = (D : Int)) (hd0 : 1 ≤ D) (hd1 : D ≤ 64) (e1 : (man : Int) / 2 ^ D = (K : Int)) (e2 : IntKind.u64.wrap (2 ^ (D - 1)) = (H : Int)) (e3 : IntKind.u64.wrap ((K : Int) * 2 ^ D) = (M : Int))
    (e4 : IntKind.u64.wrap ((man : Int) - (M : Int)) = (R : Int)) (e5 : IntKind.u64.wrap ((K : Int) + 1) = (K : Int) + 1) (hK : K < 16777216) (hc : ¬ H < R) (hc2 : ((R : Int) == (H : Int)) = true) (hc3 : more = true) (hf : (((K : Int) + 1) == 16777216) = true)
    (hV : V1 = 8388608) (hV2 : V2 = exp + (D : Int) + 1) :
    Calls Tryz.prog 106 #[.agg #[.bool neg, .int .u64 man, .int .i64 exp, .bool more]] w fun e w' => e = .returned (.tuple #[.int .i64 V1, .int .i64 V2]) ∧ Ext w w' := by
  have hd2 : ¬ ((D : Int) ≤ 0) := by omega
  have hd3 : ¬ ((64 : Int) < D) := by omega
  have hd4 : (0 : Int) ≤ (D : Int) - 1 := by omega
  have hd5 : (0 : Int) ≤ D := by omega
  have hd6 : (D : Int) ≤ 64 := by omega
  have hK2 : (K : Int) ≤ 16777215 := by omega
  subst hV hV2 hc3
  go_enter Tryz.func106, Tryz.ntmps106
  go_wp2
  go_quiet ((go_at_call 134; exact quietL (len64_any _ hm _)))
  go_wp2
  go_quiet (fail)
  go_wp2
  go_quiet (fail)
  go_wp2
  go_quiet (fail)
  go_wp2
  go_ret2
  exact ⟨rfl, (by repeat (first | with_reducible exact Ext.refl _ | with_reducible refine Ext.drewN ?_ _ | with_reducible refine Ext.drew ?_ | with_reducible refine Ext.alloc ?_ _))⟩

set_option maxRecDepth 100000 in
set_option maxHeartbeats 2000000 in
theorem sh_b (neg more : Bool) (man : Nat) (exp : Int) (hm : man < 18446744073709551616) (he : -1000000 ≤ exp) (he2 : exp ≤ 1000000) (D K R H M : Nat) (V1 V2 : Int) (w : World) (hn : nb man ≤ 64)
    (hd : max ((nb man : Int) - 24) (-150 - exp) = (D : Int)) (hd0 : 1 ≤ D) (hd1 : D ≤ 64) (e1 : (man : Int) / 2 ^ D = (K : Int)) (e2 : IntKind.u64.wrap (2 ^ (D - 1)) = (H : Int)) (e3 : IntKind.u64.wrap ((K : Int) * 2 ^ D) = (M : Int))
    (e4 : IntKind.u64.wrap ((man : Int) - (M : Int)) = (R : Int)) (e5 : IntKind.u64.wrap ((K : Int) + 1) = (K : Int) + 1) (hK : K < 16777216) (hc : ¬ H < R) (hc2 : ((R : Int) == (H : Int)) = true) (hc3 : more = true) (hf : (((K : Int) + 1) == 16777216) = false)
    (hV : V1 = (K : Int) + 1) (hV2 : V2 = exp + (D : Int)) :
    Calls Tryz.prog 106 #[.agg #[.bool neg, .int .u64 man, .int .i64 exp, .bool more]] w fun e w' => e = .returned (.tuple #[.int .i64 V1, .int .i64 V2]) ∧ Ext w w' := by
  have hd2 : ¬ ((D : Int) ≤ 0) := by omega
  have hd3 : ¬ ((64 : Int) < D) := by omega
  have hd4 : (0 : Int) ≤ (D : Int) - 1 := by omega
  have hd5 : (0 : Int) ≤ D := by omega
  have hd6 : (D : Int) ≤ 64 := by omega
  have hK2 : (K : Int) ≤ 16777215 := by omega
  subst hV hV2 hc3
  go_enter Tryz.func106, Tryz.ntmps106
  go_wp2
  go_quiet ((go_at_call 134; exact quietL (len64_any _ hm _)))
  go_wp2
  go_quiet (fail)
  go_wp2
  go_quiet (fail)
  go_wp2
  go_quiet (fail)
  go_wp2
  go_ret2
  exact ⟨rfl, (by repeat (first | with_reducible exact Ext.refl _ | with_reducible refine Ext.drewN ?_ _ | with_reducible refine Ext.drew ?_ | with_reducible refine Ext.alloc ?_ _))⟩

set_option maxRecDepth 100000 in
set_option maxHeartbeats 2000000 in
theorem sh_cf (neg more : Bool) (man : Nat) (exp : Int) (hm : man < 18446744073709551616) (he : -1000000 ≤ exp) (he2 : exp ≤ 1000000) (D K R H M : Nat) (V1 V2 : Int) (w : World) (hn : nb man ≤ 64)
    (hd : max ((nb man : Int) - 24) (-150 - exp) = (D : Int)) (hd0 : 1 ≤ D) (hd1 : D ≤ 64) (e1 : (man : Int) / 2 ^ D = (K : Int)) (e2 : IntKind.u64.wrap (2 ^ (D - 1)) = (H : Int)) (e3 : IntKind.u64.wrap ((K : Int) * 2 ^ D) = (M : Int))
    (e4 : IntKind.u64.wrap ((man : Int) - (M : Int)) = (R : Int)) (e5 : IntKind.u64.wrap ((K : Int) + 1) = (K : Int) + 1) (hK : K < 16777216) (hc : ¬ H < R) (hc2 : ((R : Int) == (H : Int)) = true) (hc3 : more = false) (hc4 : ((K : Int) % 2 == 1) = true) (hf : (((K : Int) + 1) == 16777216) = true)
    (hV : V1 = 8388608) (hV2 : V2 = exp + (D : Int) + 1) :
    Calls Tryz.prog 106 #[.agg #[.bool neg, .int .u64 man, .int .i64 exp, .bool more]] w fun e w' => e = .returned (.tuple #[.int .i64 V1, .int .i64 V2]) ∧ Ext w w' := by
  have hd2 : ¬ ((D : Int) ≤ 0) := by omega
  have hd3 : ¬ ((64 : Int) < D) := by omega
  have hd4 : (0 : Int) ≤ (D : Int) - 1 := by omega
  have hd5 : (0 : Int) ≤ D := by omega
  have hd6 : (D : Int) ≤ 64 := by omega
  have hK2 : (K : Int) ≤ 16777215 := by omega
  subst hV hV2 hc3
  go_enter Tryz.func106, Tryz.ntmps106
  go_wp2
  go_quiet ((go_at_call 134; exact quietL (len64_any _ hm _)))
  go_wp2
  go_quiet (fail)
  go_wp2
  go_quiet (fail)
  go_wp2
  go_quiet (fail)
  go_wp2
  go_ret2
  exact ⟨rfl, (by repeat (first | with_reducible exact Ext.refl _ | with_reducible refine Ext.drewN ?_ _ | with_reducible refine Ext.drew ?_ | with_reducible refine Ext.alloc ?_ _))⟩

set_option maxRecDepth 100000 in
set_option maxHeartbeats 2000000 in
theorem sh_c (neg more : Bool) (man : Nat) (exp : Int) (hm : man < 18446744073709551616) (he : -1000000 ≤ exp) (he2 : exp ≤ 1000000) (D K R H M : Nat) (V1 V2 : Int) (w : World) (hn : nb man ≤ 64)
    (hd : max ((nb man : Int) - 24) (-150 - exp) = (D : Int)) (hd0 : 1 ≤ D) (hd1 : D ≤ 64) (e1 : (man : Int) / 2 ^ D = (K : Int)) (e2 : IntKind.u64.wrap (2 ^ (D - 1)) = (H : Int)) (e3 : IntKind.u64.wrap ((K : Int) * 2 ^ D) = (M : Int))
    (e4 : IntKind.u64.wrap ((man : Int) - (M : Int)) = (R : Int)) (e5 : IntKind.u64.wrap ((K : Int) + 1) = (K : Int) + 1) (hK : K < 16777216) (hc : ¬ H < R) (hc2 : ((R : Int) == (H : Int)) = true) (hc3 : more = false) (hc4 : ((K : Int) % 2 == 1) = true) (hf : (((K : Int) + 1) == 16777216) = false)
    (hV : V1 = (K : Int) + 1) (hV2 : V2 = exp + (D : Int)) :
    Calls Tryz.prog 106 #[.agg #[.bool neg, .int .u64 man, .int .i64 exp, .bool more]] w fun e w' => e = .returned (.tuple #[.int .i64 V1, .int .i64 V2]) ∧ Ext w w' := by
  have hd2 : ¬ ((D : Int) ≤ 0) := by omega
  have hd3 : ¬ ((64 : Int) < D) := by omega
  have hd4 : (0 : Int) ≤ (D : Int) - 1 := by omega
  have hd5 : (0 : Int) ≤ D := by omega
  have hd6 : (D : Int) ≤ 64 := by omega
  have hK2 : (K : Int) ≤ 16777215 := by omega
  subst hV hV2 hc3
  go_enter Tryz.func106, Tryz.ntmps106
  go_wp2
  go_quiet ((go_at_call 134; exact quietL (len64_any _ hm _)))
  go_wp2
  go_quiet (fail)
  go_wp2
  go_quiet (fail)
  go_wp2
  go_quiet (fail)
  go_wp2
  go_ret2
  exact ⟨rfl, (by repeat (first | with_reducible exact Ext.refl _ | with_reducible refine Ext.drewN ?_ _ | with_reducible refine Ext.drew ?_ | with_reducible refine Ext.alloc ?_ _))⟩

set_option maxRecDepth 100000 in
set_option maxHeartbeats 2000000 in
theorem sh_d (neg more : Bool) (man : Nat) (exp : Int) (hm : man < 18446744073709551616) (he : -1000000 ≤ exp) (he2 : exp ≤ 1000000) (D K R H M : Nat) (V1 V2 : Int) (w : World) (hn : nb man ≤ 64)
    (hd : max ((nb man : Int) - 24) (-150 - exp) = (D : Int)) (hd0 : 1 ≤ D) (hd1 : D ≤ 64) (e1 : (man : Int) / 2 ^ D = (K : Int)) (e2 : IntKind.u64.wrap (2 ^ (D - 1)) = (H : Int)) (e3 : IntKind.u64.wrap ((K : Int) * 2 ^ D) = (M : Int))
    (e4 : IntKind.u64.wrap ((man : Int) - (M : Int)) = (R : Int)) (e5 : IntKind.u64.wrap ((K : Int) + 1) = (K : Int) + 1) (hK : K < 16777216) (hc : ¬ H < R) (hc2 : ((R : Int) == (H : Int)) = true) (hc3 : more = false) (hc4 : ((K : Int) % 2 == 1) = false) (hf : ((K : Int) == 16777216) = false)
    (hV : V1 = (K : Int)) (hV2 : V2 = exp + (D : Int)) :
    Calls Tryz.prog 106 #[.agg #[.bool neg, .int .u64 man, .int .i64 exp, .bool more]] w fun e w' => e = .returned (.tuple #[.int .i64 V1, .int .i64 V2]) ∧ Ext w w' := by
  have hd2 : ¬ ((D : Int) ≤ 0) := by omega
  have hd3 : ¬ ((64 : Int) < D) := by omega
  have hd4 : (0 : Int) ≤ (D : Int) - 1 := by omega
  have hd5 : (0 : Int) ≤ D := by omega
  have hd6 : (D : Int) ≤ 64 := by omega
  have hK2 : (K : Int) ≤ 16777215 := by omega
  subst hV hV2 hc3
  go_enter Tryz.func106, Tryz.ntmps106
  go_wp2
  go_quiet ((go_at_call 134; exact quietL (len64_any _ hm _)))
  go_wp2
  go_quiet (fail)
  go_wp2
  go_quiet (fail)
  go_wp2
  go_quiet (fail)
  go_wp2
  go_ret2
  exact ⟨rfl, (by repeat (first | with_reducible exact Ext.refl _ | with_reducible refine Ext.drewN ?_ _ | with_reducible refine Ext.drew ?_ | with_reducible refine Ext.alloc ?_ _))⟩

set_option maxRecDepth 100000 in
set_option maxHeartbeats 2000000 in
theorem sh_e (neg more : Bool) (man : Nat) (exp : Int) (hm : man < 18446744073709551616) (he : -1000000 ≤ exp) (he2 : exp ≤ 1000000) (D K R H M : Nat) (V1 V2 : Int) (w : World) (hn : nb man ≤ 64)
    (hd : max ((nb man : Int) - 24) (-150 - exp) = (D : Int)) (hd0 : 1 ≤ D) (hd1 : D ≤ 64) (e1 : (man : Int) / 2 ^ D = (K : Int)) (e2 : IntKind.u64.wrap (2 ^ (D - 1)) = (H : Int)) (e3 : IntKind.u64.wrap ((K : Int) * 2 ^ D) = (M : Int))
    (e4 : IntKind.u64.wrap ((man : Int) - (M : Int)) = (R : Int)) (e5 : IntKind.u64.wrap ((K : Int) + 1) = (K : Int) + 1) (hK : K < 16777216) (hc : ¬ H < R) (hc2 : ((R : Int) == (H : Int)) = false) (hf : ((K : Int) == 16777216) = false)
    (hV : V1 = (K : Int)) (hV2 : V2 = exp + (D : Int)) :
    Calls Tryz.prog 106 #[.agg #[.bool neg, .int .u64 man, .int .i64 exp, .bool more]] w fun e w' => e = .returned (.tuple #[.int .i64 V1, .int .i64 V2]) ∧ Ext w w' := by
  have hd2 : ¬ ((D : Int) ≤ 0) := by omega
  have hd3 : ¬ ((64 : Int) < D) := by omega
  have hd4 : (0 : Int) ≤ (D : Int) - 1 := by omega
  have hd5 : (0 : Int) ≤ D := by omega
  have hd6 : (D : Int) ≤ 64 := by omega
  have hK2 : (K : Int) ≤ 16777215 := by omega
  subst hV hV2
  go_enter Tryz.func106, Tryz.ntmps106
  go_wp2
  go_quiet ((go_at_call 134; exact quietL (len64_any _ hm _)))
  go_wp2
  go_quiet (fail)
  go_wp2
  go_quiet (fail)
  go_wp2
  go_quiet (fail)
  go_wp2
  go_ret2
  exact ⟨rfl, (by repeat (first | with_reducible exact Ext.refl _ | with_reducible refine Ext.drewN ?_ _ | with_reducible refine Ext.drew ?_ | with_reducible refine Ext.alloc ?_ _))⟩

end Go.Proofs.YtoeahfddnjbhbaaGreatDoor
