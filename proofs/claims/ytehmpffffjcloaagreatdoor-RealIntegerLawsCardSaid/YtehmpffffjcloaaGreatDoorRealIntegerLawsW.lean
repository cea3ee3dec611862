/- The walk of RealIntegerLaws. -/
import Derived.Test.YtehmpffffjcloaaGreatDoorTl
import Derived.Test.YtehmpffffjcloaaGreatDoorTla
import Derived.Test.YtehmpffffjcloaaGreatDoorTlb
import Derived.Test.YtehmpffffjcloaaGreatDoorTlc
import Derived.Test.YtehmpffffjcloaaGreatDoorGr
namespace Go.Proofs.YtehmpffffjcloaaGreatDoor.realIntegerLaws
open Go.RowKit
theorem from_ret {n m x : Int} (h : n.natAbs ≤ 16777216) (e : (exV n 0).rd = some (m, x)) : Ret 20 #[.int .i64 n] (.agg #[.int .i64 m, .int .i64 x]) := fun w =>
  (fromInt_any n (by omega) (by omega) w).mono fun q w' ⟨k, hx⟩ => ⟨by rw [e] at k; exact k, hx⟩
theorem wholeU_in {a : Int} (h : ¬ (a < -2147483647 ∨ 2147483647 < a)) : wholeU a = (a, 0) := by unfold wholeU; rw [if_neg h]
theorem wholeU_out {a : Int} (h : a < -2147483647 ∨ 2147483647 < a) : wholeU a = (0, 3) := by unfold wholeU; rw [if_pos h]
theorem tmod24 (n : Int) : (n.tmod 16777217).natAbs ≤ 16777216 := by
  rcases Int.lt_or_le n 0 with h | h
  · have := Int.tmod_lt_of_pos (-n) (b := 16777217) (by omega)
    have h2 := Int.tmod_nonneg (a := -n) 16777217 (by omega)
    rw [Int.neg_tmod] at this h2
    omega
  · have := Int.tmod_lt_of_pos n (b := 16777217) (by omega)
    have h2 := Int.tmod_nonneg (a := n) 16777217 h
    omega
/-- The three integer parts. -/
theorem parts (S : Int) : ((S + H149) / H150 = S / H150 ∨ (S + H149) / H150 = S / H150 + 1) ∧
    (H149 ≤ S - S / H150 * H150 → (S + H149) / H150 = S / H150 + 1) ∧ (S - S / H150 * H150 < H149 → (S + H149) / H150 = S / H150) ∧
    (H149 < S - S / H150 * H150 → (-S + H149) / H150 = -(S / H150 + 1)) ∧ (S - S / H150 * H150 < H149 → (-S + H149) / H150 = -(S / H150)) ∧
    (-(S / H150) - 1 ≤ (-S + H149) / H150 ∧ (-S + H149) / H150 ≤ -(S / H150)) ∧ S / H150 * H150 ≤ S ∧ S < (S / H150 + 1) * H150 := by
  unfold H149 H150
  omega
set_option maxHeartbeats 4000000 in
theorem walk (a0 : Int) (w0 : (Lit.int .i64 a0).wf = true) (a1 : Int) (_w1 : (Lit.int .i64 a1).wf = true) (w : World) (ht : Tb w) :
    Calls Tryz.prog 15 #[.int .i64 a0, .int .i64 a1] w fun e w' => e = .returned (.bool true) ∧ Ext w w' := by
  obtain ⟨N, hN⟩ : ∃ N, a1.tmod 16777217 = N := ⟨_, rfl⟩
  have bN := tmod24 a1
  rw [hN] at bN
  have hN' : IntKind.i64.wrap N = N := IntWalk.i64_in _ ⟨by omega, by omega⟩
  have hN2 : wrap64 N = N := by unfold wrap64; omega
  obtain ⟨fm, fx, fr, fv, fs⟩ := from_int N bN
  have FI := from_ret bN fr
  have hp0 : H150 ≠ 0 := by decide
  have EF : Ret 48 #[.agg #[.int .i64 fm, .int .i64 fx]] _ := entier_any fm fx
  rw [whole_U fv 0 (.inl rfl), fs, Int.zero_mul, Int.add_zero, Int.mul_ediv_cancel _ hp0, wholeU_in (by omega)] at EF
  obtain ⟨pm, px, hp, A⟩ := at_vd w0
  have EA : Ret 48 #[.agg #[.int .i64 pm, .int .i64 px]] _ := entier_any pm px
  have RB : Ret 49 #[.agg #[.int .i64 pm, .int .i64 px]] _ := roundR_any pm px
  have NG : Ret 26 #[.agg #[.int .i64 pm, .int .i64 px]] _ := Neg_vd hp
  have RC : Ret 49 #[.agg #[.int .i64 (-pm), .int .i64 px]] _ := roundR_any (-pm) px
  rw [whole_U hp 0 (.inl rfl), Int.zero_mul, Int.add_zero] at EA
  rw [whole_U hp 1 (.inr rfl), Int.one_mul] at RB
  rw [whole_U hp.rev 1 (.inr rfl), Int.one_mul, sc_rev] at RC
  obtain ⟨t1, t2, t3, t4, t5, t6, t7, t8⟩ := parts (sc pm px)
  have dec := fun (n y : Int) (k : Vd n y) (hk : sc n y = sc pm px / H150 * H150) => half_dec hp k hk rfl
  have cmpL := fun (n y : Int) (k : Vd n y) => cmpV_eq k hp
  have cmpR := fun (n y : Int) (k : Vd n y) => cmpV_eq hp k
  generalize hS : sc pm px = S at *
  generalize ha : S / H150 = a at *
  generalize hb : (S + H149) / H150 = b at *
  generalize hc : (-S + H149) / H150 = c at *
  by_cases ea : a < -2147483647 ∨ 2147483647 < a
  · rw [wholeU_out ea] at EA
    by_cases eb : b < -2147483647 ∨ 2147483647 < b
    · rw [wholeU_out eb] at RB
      exact int_e33 w ht a0 a1 N fm fx pm px (-pm) px 0 0 _ _ hN hN' hN2 FI EF A EA RB NG RC sanity_any
    · rw [wholeU_in eb] at RB
      exact int_e30 w ht a0 a1 N fm fx pm px (-pm) px 0 b _ _ hN hN' hN2 FI EF A EA RB NG RC sanity_any
  rw [wholeU_in ea] at EA
  by_cases eb : b < -2147483647 ∨ 2147483647 < b
  · rw [wholeU_out eb] at RB
    exact int_e03 w ht a0 a1 N fm fx pm px (-pm) px a 0 _ _ hN hN' hN2 FI EF A EA RB NG RC sanity_any
  rw [wholeU_in eb] at RB
  have wB : IntKind.i64.wrap (a + 1) = a + 1 := IntWalk.i64_in _ ⟨by omega, by omega⟩
  have wB' : wrap64 (a + 1) = a + 1 := by unfold wrap64; omega
  have nB : ¬ a = a + 1 := by omega
  have nB' : ¬ a + 1 = a := by omega
  have nb : (a == a + 1) = false := by simpa using nB
  have nb' : (a + 1 == a) = false := by simpa using nB'
  by_cases r1 : a < -8388608
  · by_cases ec : c < -2147483647 ∨ 2147483647 < c
    · rw [wholeU_out ec] at RC
      rcases t1 with e | e
      · rw [e] at RB; exact int_r3a_lo w ht a0 a1 N fm fx pm px (-pm) px a (a + 1) 0 hN hN' hN2 FI EF A EA RB NG RC wB wB' nB nB' nb nb' r1 sanity_any
      · rw [e] at RB; exact int_r3B_lo w ht a0 a1 N fm fx pm px (-pm) px a (a + 1) 0 hN hN' hN2 FI EF A EA RB NG RC wB wB' nB nB' nb nb' r1 sanity_any
    · rw [wholeU_in ec] at RC
      rcases t1 with e | e
      · rw [e] at RB; exact int_r0a_lo w ht a0 a1 N fm fx pm px (-pm) px a (a + 1) c hN hN' hN2 FI EF A EA RB NG RC wB wB' nB nB' nb nb' r1 sanity_any
      · rw [e] at RB; exact int_r0B_lo w ht a0 a1 N fm fx pm px (-pm) px a (a + 1) c hN hN' hN2 FI EF A EA RB NG RC wB wB' nB nB' nb nb' r1 sanity_any
  by_cases r2 : a ≥ 8388608
  · by_cases ec : c < -2147483647 ∨ 2147483647 < c
    · rw [wholeU_out ec] at RC
      rcases t1 with e | e
      · rw [e] at RB; exact int_r3a_hi w ht a0 a1 N fm fx pm px (-pm) px a (a + 1) 0 hN hN' hN2 FI EF A EA RB NG RC wB wB' nB nB' nb nb' r1 r2 sanity_any
      · rw [e] at RB; exact int_r3B_hi w ht a0 a1 N fm fx pm px (-pm) px a (a + 1) 0 hN hN' hN2 FI EF A EA RB NG RC wB wB' nB nB' nb nb' r1 r2 sanity_any
    · rw [wholeU_in ec] at RC
      rcases t1 with e | e
      · rw [e] at RB; exact int_r0a_hi w ht a0 a1 N fm fx pm px (-pm) px a (a + 1) c hN hN' hN2 FI EF A EA RB NG RC wB wB' nB nB' nb nb' r1 r2 sanity_any
      · rw [e] at RB; exact int_r0B_hi w ht a0 a1 N fm fx pm px (-pm) px a (a + 1) c hN hN' hN2 FI EF A EA RB NG RC wB wB' nB nB' nb nb' r1 r2 sanity_any
  rw [wholeU_in (show ¬ (c < -2147483647 ∨ 2147483647 < c) by omega)] at RC
  obtain ⟨um, ux, ur, uv, us⟩ := from_int a (by omega)
  obtain ⟨vm, vx, vr, vv, vs⟩ := from_int (a + 1) (by omega)
  have FA := from_ret (show a.natAbs ≤ 16777216 by omega) ur
  have FB := from_ret (show (a + 1).natAbs ≤ 16777216 by omega) vr
  have CL : Ret 29 #[.agg #[.int .i64 um, .int .i64 ux], .agg #[.int .i64 pm, .int .i64 px]] _ := fun w => Cmp_vd uv hp w
  have CH : Ret 29 #[.agg #[.int .i64 pm, .int .i64 px], .agg #[.int .i64 vm, .int .i64 vx]] _ := fun w => Cmp_vd hp vv w
  have l1 : ¬ cmpV um ux pm px > 0 := by rw [cmpL um ux uv, us]; unfold cmpI; split <;> (try split) <;> omega
  have l2 : ¬ cmpV pm px vm vx ≥ 0 := by rw [cmpR vm vx vv, vs]; unfold cmpI; split <;> (try split) <;> omega
  have SU : Ret 36 #[.agg #[.int .i64 pm, .int .i64 px], .agg #[.int .i64 um, .int .i64 ux]] _ := sub_real pm px um ux
  obtain ⟨d0, dv, t, dc, dt⟩ := dec um ux uv us
  rw [d0] at SU
  have TW : Ret 62 #[.int .i64 (-1)] _ := fun w => two_at (-1) (-24) (by omega) (by omega) (by omega) w
  have CD : Ret 29 #[.agg #[.int .i64 (subV pm px um ux).1.1, .int .i64 (subV pm px um ux).1.2], .agg #[.int .i64 8388608, .int .i64 (-24)]] _ := fun w => Cmp_vd dv vd_half w
  rw [dc] at CD
  rcases dt with ⟨rfl, g⟩ | ⟨rfl, g⟩ | ⟨rfl, g⟩
  · rw [t2 (by omega)] at RB
    have ec : c = -(a + 1) := t4 g
    exact int_in1 w ht a0 a1 N fm fx pm px (-pm) px a (a + 1) c um ux vm vx _ _ _ _ hN hN' hN2 FI EF A EA RB NG RC wB wB' nB nB' nb nb' r1 r2
      (by rw [ec]; exact IntWalk.i64_in _ ⟨by omega, by omega⟩) (by rw [ec]; unfold wrap64; omega) (by rw [Int.zero_sub, ec]; exact IntWalk.i64_in _ ⟨by omega, by omega⟩) (by rw [Int.zero_sub, ec]; unfold wrap64; omega) FA CL l1 FB CH l2 SU TW CD sanity_any
  · rw [t2 (by omega)] at RB
    exact int_in0 w ht a0 a1 N fm fx pm px (-pm) px a (a + 1) c um ux vm vx _ _ _ _ hN hN' hN2 FI EF A EA RB NG RC wB wB' nB nB' nb nb' r1 r2 FA CL l1 FB CH l2 SU TW CD sanity_any
  · rw [t3 g] at RB
    have ec : c = -a := t5 g
    exact int_inm w ht a0 a1 N fm fx pm px (-pm) px a (a + 1) c um ux vm vx _ _ _ _ hN hN' hN2 FI EF A EA RB NG RC wB wB' nB nB' nb nb' r1 r2
      (by rw [ec]; exact IntWalk.i64_in _ ⟨by omega, by omega⟩) (by rw [ec]; unfold wrap64; omega) (by rw [Int.zero_sub, ec]; exact IntWalk.i64_in _ ⟨by omega, by omega⟩) (by rw [Int.zero_sub, ec]; unfold wrap64; omega) FA CL l1 FB CH l2 SU TW CD sanity_any
end Go.Proofs.YtehmpffffjcloaaGreatDoor.realIntegerLaws
