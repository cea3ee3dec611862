/- The walk of RealAlgebra. -/
import Derived.Test.YtehmpffffjcloaaGreatDoorTn
import Derived.Test.YtehmpffffjcloaaGreatDoorGr
import Derived.Test.YtehmpffffjcloaaGreatDoorGm
namespace Go.Proofs.YtehmpffffjcloaaGreatDoor.realAlgebra
open Go.RowKit
theorem add_vd {m x n y : Int} (h : Vd m x) (k : Vd n y) : Vd (addV m x n y).1.1 (addV m x n y).1.2 := by
  obtain ⟨r, _, b⟩ := add_char h k
  rw [b]; exact resE_vd _ _
theorem mul_vd {m x n y : Int} (h : Vd m x) (k : Vd n y) : Vd (mulV m x n y).1.1 (mulV m x n y).1.2 := by
  obtain ⟨r, _, b⟩ := mul_char h k
  rw [b]; exact resE_vd _ _
theorem cmp_le {a b : Int} (h : ¬ cmpI a b > 0) : a ≤ b := by
  unfold cmpI at h
  split at h
  · omega
  · split at h <;> omega
set_option maxHeartbeats 4000000 in
theorem walk (a0 : Int) (w0 : (Lit.int .i64 a0).wf = true) (a1 : Int) (w1 : (Lit.int .i64 a1).wf = true) (w : World) (ht : Tb w) :
    Calls Tryz.prog 13 #[.int .i64 a0, .int .i64 a1] w fun e w' => e = .returned (.bool true) ∧ Ext w w' := by
  obtain ⟨pm, px, hp, A⟩ := at_vd w0
  obtain ⟨qm, qx, hq, B⟩ := at_vd w1
  have FI : Ret 20 #[.int .i64 1] (.agg #[.int .i64 8388608, .int .i64 (-23)]) := fun w =>
    (fromInt_any 1 (by omega) (by omega) w).mono fun q w' ⟨k, hx⟩ => ⟨by rw [show (exV 1 0).rd = some (8388608, -23) by decide +kernel] at k; exact k, hx⟩
  have NX : Ret 26 _ _ := fun w => Neg_vd hp w
  have NY : Ret 26 _ _ := fun w => Neg_vd hq w
  have AD1 : Ret 35 #[.agg #[.int .i64 pm, .int .i64 px], .agg #[.int .i64 qm, .int .i64 qx]] _ := Add_vd pm px qm qx
  have AD2 : Ret 35 #[.agg #[.int .i64 qm, .int .i64 qx], .agg #[.int .i64 pm, .int .i64 px]] _ := Add_vd qm qx pm px
  have AD3 : Ret 35 #[.agg #[.int .i64 (-pm), .int .i64 px], .agg #[.int .i64 (-qm), .int .i64 qx]] _ := Add_vd (-pm) px (-qm) qx
  rw [add_comm' hp hq] at AD2
  rw [add_rev hp hq] at AD3
  have NC : Ret 26 _ _ := fun w => Neg_vd (add_vd hp hq).rev w
  rw [Int.neg_neg] at NC
  have MU1 : Ret 40 #[.agg #[.int .i64 pm, .int .i64 px], .agg #[.int .i64 qm, .int .i64 qx]] _ := Mul_vd pm px qm qx
  have MU2 : Ret 40 #[.agg #[.int .i64 qm, .int .i64 qx], .agg #[.int .i64 pm, .int .i64 px]] _ := Mul_vd qm qx pm px
  have MU3 : Ret 40 #[.agg #[.int .i64 (-pm), .int .i64 px], .agg #[.int .i64 qm, .int .i64 qx]] _ := Mul_vd (-pm) px qm qx
  rw [mul_comm' hp hq] at MU2
  rw [mul_rev hp hq] at MU3
  have NK : Ret 26 _ _ := fun w => Neg_vd (mul_vd hp hq).rev w
  rw [Int.neg_neg] at NK
  have AZ : Ret 35 #[.agg #[.int .i64 pm, .int .i64 px], .agg #[.int .i64 0, .int .i64 0]] _ := Add_vd pm px 0 0
  rw [add_zero' hp] at AZ
  have MO : Ret 40 #[.agg #[.int .i64 pm, .int .i64 px], .agg #[.int .i64 8388608, .int .i64 (-23)]] _ := Mul_vd pm px 8388608 (-23)
  rw [mul_one' hp] at MO
  have DO : Ret 41 #[.agg #[.int .i64 pm, .int .i64 px], .agg #[.int .i64 8388608, .int .i64 (-23)]] _ := div_real pm px 8388608 (-23)
  rw [div_one' hp] at DO
  have SU : Ret 36 #[.agg #[.int .i64 pm, .int .i64 px], .agg #[.int .i64 qm, .int .i64 qx]] _ := sub_real pm px qm qx
  have TW : Ret 62 #[.int .i64 (-1)] _ := fun w => two_at (-1) (-24) (by omega) (by omega) (by omega) w
  have HM : Ret 40 #[.agg #[.int .i64 qm, .int .i64 qx], .agg #[.int .i64 8388608, .int .i64 (-24)]] _ := Mul_vd qm qx 8388608 (-24)
  have h0 : (mulV qm qx 8388608 (-24)).2 = 0 := by
    obtain ⟨r, _, h2, h3⟩ := half_char hq
    rw [h3]; exact resE_ok.2 (Nat.le_trans h2 (idx_le hq))
  rw [h0] at HM
  have TY : Ret 35 #[.agg #[.int .i64 qm, .int .i64 qx], .agg #[.int .i64 qm, .int .i64 qx]] _ := Add_vd qm qx qm qx
  have CL : Ret 29 _ _ := fun w => Cmp_vd (mul_vd hq vd_half) hp w
  have CH : Ret 29 _ _ := fun w => Cmp_vd hp (add_vd hq hq) w
  refine alg w ht a0 a1 _ _ _ _ _ _ _ _ _ _ _ _ _ _ _ _ _ _ _ _ _ _ _ _ _ _ _ _ _ _ A B FI NX NY AD1 AD2 AD3 NC MU1 MU2 MU3 NK AZ MO DO SU ?_ TW HM TY CL CH ?_ sanity_any
  · intro hd
    have k := sub_zero' hp hq hd
    rw [Prod.ext_iff] at k
    simp only at k
    rw [Bool.eq_iff_iff]
    simpa using k
  · intro hf hlo hhi
    rw [cmpV_eq (mul_vd hq vd_half) hp] at hlo
    rw [cmpV_eq hp (add_vd hq hq)] at hhi
    obtain ⟨e1, e2⟩ := sterbenz hp hq hf (cmp_le (by omega)) (cmp_le (by omega))
    refine ⟨e1, ?_⟩
    have BK : Ret 35 #[.agg #[.int .i64 (subV pm px qm qx).1.1, .int .i64 (subV pm px qm qx).1.2], .agg #[.int .i64 qm, .int .i64 qx]] _ := Add_vd _ _ qm qx
    rw [e2] at BK
    exact BK
end Go.Proofs.YtehmpffffjcloaaGreatDoor.realAlgebra
