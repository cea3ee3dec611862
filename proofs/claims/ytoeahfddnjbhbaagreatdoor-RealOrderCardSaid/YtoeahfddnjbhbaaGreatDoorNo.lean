/- Layer 2: rounding: what the program's rounded gives. -/
import Derived.Test.YtoeahfddnjbhbaaGreatDoorNn
import Derived.Outline
namespace Go.Proofs.YtoeahfddnjbhbaaGreatDoor
open Go.RowKit

theorem nb_le {man : Nat} (hm : man < 18446744073709551616) : nb man ≤ 64 := nb_le64 hm
theorem shortened_any (neg more : Bool) (man : Nat) (exp : Int) (hm : man < 18446744073709551616) (he : -1000000 ≤ exp) (he2 : exp ≤ 1000000) (w : World) :
    Calls Tryz.prog 106 #[.agg #[.bool neg, .int .u64 man, .int .i64 exp, .bool more]] w fun e w' => e = .returned (.tuple #[.int .i64 (shortV man exp more).1, .int .i64 (shortV man exp more).2]) ∧ Ext w w' := by
  have hn := nb_le64 hm
  have hd : max ((nb man : Int) - 24) (-150 - exp) = dropV man exp := rfl
  have hlo : (nb man : Int) - 24 ≤ dropV man exp := by unfold dropV; omega
  have hhi : dropV man exp ≤ 2000000 := by unfold dropV; omega
  have hlo2 : -2000000 ≤ dropV man exp := by omega
  by_cases h1 : dropV man exp ≤ 0
  · have hg := grow_lt hlo h1
    rw [short_none h1]
    generalize dropV man exp = d at *
    refine sh_none neg more man exp hm he he2 d _ _ w hn hd h1 hlo2 ?_ rfl
    have e : (man : Int) * 2 ^ (-d).toNat = ((man * 2 ^ (-d).toNat : Nat) : Int) := by simp
    rw [e]
    generalize man * 2 ^ (-d).toNat = x at *
    rw [IntWalk.u64_in _ ⟨by omega, by omega⟩]
    unfold wrap64
    omega
  · by_cases h2 : 64 < dropV man exp
    · rw [short_far h2]
      exact sh_far neg more man exp hm he he2 _ w hn hd h2 hhi
    · obtain ⟨D, hD⟩ : ∃ D : Nat, dropV man exp = D := ⟨(dropV man exp).toNat, by omega⟩
      have g1 : 1 ≤ D := by omega
      have g2 : D ≤ 64 := by omega
      have k := keep_lt (man := man) (D := D) (by omega)
      rw [short_at hD g1 g2]
      rw [hD] at hd
      have hH : 2 ^ (D - 1) < 18446744073709551616 := Nat.lt_of_le_of_lt (Nat.pow_le_pow_right (by omega) (show D - 1 ≤ 63 by omega)) (by decide)
      have hR : man % 2 ^ D ≤ man := Nat.mod_le _ _
      have hM := Nat.div_add_mod man (2 ^ D)
      rw [Nat.mul_comm] at hM
      have e1 : (man : Int) / 2 ^ D = ((man / 2 ^ D : Nat) : Int) := by simp
      have e2 : IntKind.u64.wrap (2 ^ (D - 1)) = ((2 ^ (D - 1) : Nat) : Int) := by
        have e : (2 : Int) ^ (D - 1) = ((2 ^ (D - 1) : Nat) : Int) := by simp
        rw [e]
        generalize 2 ^ (D - 1) = H at hH ⊢
        exact IntWalk.u64_in _ ⟨by omega, by omega⟩
      have e3 : IntKind.u64.wrap (((man / 2 ^ D : Nat) : Int) * 2 ^ D) = ((man / 2 ^ D * 2 ^ D : Nat) : Int) := by
        have e : ((man / 2 ^ D : Nat) : Int) * 2 ^ D = ((man / 2 ^ D * 2 ^ D : Nat) : Int) := by simp
        rw [e]; exact IntWalk.u64_in _ ⟨by omega, by omega⟩
      have e4 : IntKind.u64.wrap ((man : Int) - ((man / 2 ^ D * 2 ^ D : Nat) : Int)) = ((man % 2 ^ D : Nat) : Int) := by
        rw [show (man : Int) - ((man / 2 ^ D * 2 ^ D : Nat) : Int) = ((man % 2 ^ D : Nat) : Int) by omega]
        exact IntWalk.u64_in _ ⟨by omega, by omega⟩
      unfold upB
      generalize man / 2 ^ D * 2 ^ D = M at *
      generalize man / 2 ^ D = K at *
      generalize man % 2 ^ D = R at *
      generalize 2 ^ (D - 1) = H at *
      have e5 : IntKind.u64.wrap ((K : Int) + 1) = (K : Int) + 1 := IntWalk.u64_in _ ⟨by omega, by omega⟩
      have fK : ((K : Int) == 16777216) = false := by rw [beq_eq_false_iff_ne]; omega
      have nK : ¬ K = 16777216 := by omega
      generalize hu : (decide (H < R) || (decide (R = H) && (more || K % 2 == 1))) = u
      have fin : ∀ (V : Nat × Int) (w : World), (∀ V1 V2 : Int, V1 = V.1 → V2 = V.2 → Calls Tryz.prog 106 #[.agg #[.bool neg, .int .u64 man, .int .i64 exp, .bool more]] w fun e w' => e = .returned (.tuple #[.int .i64 V1, .int .i64 V2]) ∧ Ext w w') →
        Calls Tryz.prog 106 #[.agg #[.bool neg, .int .u64 man, .int .i64 exp, .bool more]] w fun e w' => e = .returned (.tuple #[.int .i64 V.1, .int .i64 V.2]) ∧ Ext w w' := fun V w h => h _ _ rfl rfl
      refine fin _ w fun V1 V2 hV1 hV2 => ?_
      clear fin
      have up1 : u = true → K + 1 = 16777216 → V1 = 8388608 ∧ V2 = exp + (D : Int) + 1 := fun h hf => by
        rw [h] at hV1 hV2; simp only [if_true] at hV1 hV2; rw [if_pos hf] at hV1 hV2; exact ⟨hV1, hV2⟩
      have up2 : u = true → K + 1 ≠ 16777216 → V1 = (K : Int) + 1 ∧ V2 = exp + (D : Int) := fun h hf => by
        rw [h] at hV1 hV2; simp only [if_true] at hV1 hV2; rw [if_neg hf] at hV1 hV2; exact ⟨by rw [hV1]; simp, hV2⟩
      have dn : u = false → V1 = (K : Int) ∧ V2 = exp + (D : Int) := fun h => by
        rw [h] at hV1 hV2; simp only [Bool.false_eq_true, if_false] at hV1 hV2; rw [if_neg nK] at hV1 hV2; exact ⟨hV1, hV2⟩
      clear hV1 hV2
      have f1 : K + 1 = 16777216 → ((K : Int) + 1 == 16777216) = true := fun h => by rw [beq_iff_eq]; omega
      have f2 : K + 1 ≠ 16777216 → ((K : Int) + 1 == 16777216) = false := fun h => by rw [beq_eq_false_iff_ne]; omega
      by_cases hc : H < R
      · have hu1 : u = true := by rw [← hu]; simp [hc]
        by_cases hf : K + 1 = 16777216
        · exact sh_af neg more man exp hm he he2 D K R H M V1 V2 w hn hd g1 g2 e1 e2 e3 e4 e5 k hc (f1 hf) (up1 hu1 hf).1 (up1 hu1 hf).2
        · exact sh_a neg more man exp hm he he2 D K R H M V1 V2 w hn hd g1 g2 e1 e2 e3 e4 e5 k hc (f2 hf) (up2 hu1 hf).1 (up2 hu1 hf).2
      · by_cases hc2 : R = H
        · have b2 : ((R : Int) == (H : Int)) = true := by rw [hc2]; simp
          cases hm2 : more with
          | true =>
            subst hm2
            have hu1 : u = true := by rw [← hu]; simp [hc2]
            by_cases hf : K + 1 = 16777216
            · exact sh_bf neg true man exp hm he he2 D K R H M V1 V2 w hn hd g1 g2 e1 e2 e3 e4 e5 k hc b2 rfl (f1 hf) (up1 hu1 hf).1 (up1 hu1 hf).2
            · exact sh_b neg true man exp hm he he2 D K R H M V1 V2 w hn hd g1 g2 e1 e2 e3 e4 e5 k hc b2 rfl (f2 hf) (up2 hu1 hf).1 (up2 hu1 hf).2
          | false =>
            subst hm2
            by_cases ho : K % 2 = 1
            · have b4 : ((K : Int) % 2 == 1) = true := by rw [beq_iff_eq]; omega
              have hu1 : u = true := by rw [← hu]; simp [hc2, ho]
              by_cases hf : K + 1 = 16777216
              · exact sh_cf neg false man exp hm he he2 D K R H M V1 V2 w hn hd g1 g2 e1 e2 e3 e4 e5 k hc b2 rfl b4 (f1 hf) (up1 hu1 hf).1 (up1 hu1 hf).2
              · exact sh_c neg false man exp hm he he2 D K R H M V1 V2 w hn hd g1 g2 e1 e2 e3 e4 e5 k hc b2 rfl b4 (f2 hf) (up2 hu1 hf).1 (up2 hu1 hf).2
            · have b4 : ((K : Int) % 2 == 1) = false := by rw [beq_eq_false_iff_ne]; omega
              have hu1 : u = false := by rw [← hu]; simp [hc2, ho]
              exact sh_d neg false man exp hm he he2 D K R H M V1 V2 w hn hd g1 g2 e1 e2 e3 e4 e5 k hc b2 rfl b4 fK (dn hu1).1 (dn hu1).2
        · have b2 : ((R : Int) == (H : Int)) = false := by rw [beq_eq_false_iff_ne]; omega
          have hu1 : u = false := by rw [← hu]; simp [hc, hc2]
          exact sh_e neg more man exp hm he he2 D K R H M V1 V2 w hn hd g1 g2 e1 e2 e3 e4 e5 k hc b2 fK (dn hu1).1 (dn hu1).2
end Go.Proofs.YtoeahfddnjbhbaaGreatDoor
