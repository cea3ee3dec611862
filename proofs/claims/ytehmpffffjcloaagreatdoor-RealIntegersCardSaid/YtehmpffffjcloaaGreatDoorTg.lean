/- Layer 2: the reference's integer parts. -/
import Derived.Test.YtehmpffffjcloaaGreatDoorGr
namespace Go.Proofs.YtehmpffffjcloaaGreatDoor
open Go.RowKit

/-- What the reference's floor gives. -/
def cutU (a : Int) : Int × Bool := if a < -2147483647 ∨ 2147483647 < a then (0, false) else (a, true)
def floV (m x : Int) : Int × Bool := if m = 0 then (0, true) else if 8 < x then (0, false) else cutU (if 0 < x then m * 2 ^ x.toNat else m / 2 ^ (-x).toNat)
/-- The number that the first loop has made in k rounds; the second one's. -/
def upK (m : Int) (k : Nat) : Int := m * 2 ^ k
def dnK (m : Int) (k : Nat) : Int := m / 2 ^ k
theorem upK_succ (m : Int) (k : Nat) : upK m k * 2 = upK m (k + 1) := by unfold upK; rw [Int.pow_succ, Int.mul_assoc]
theorem dnK_succ (m : Int) (k : Nat) : dnK m k / 2 = dnK m (k + 1) := by unfold dnK; rw [Int.pow_succ, Int.ediv_ediv_of_nonneg (Int.pow_nonneg (by omega))]
theorem upK_zero (m : Int) : upK m 0 = m := by unfold upK; omega
theorem dnK_zero (m : Int) : dnK m 0 = m := by unfold dnK; omega
theorem td_even {d : Int} (h : d.tmod 2 = 0) : d.tdiv 2 = d / 2 := by
  have := Int.mul_tdiv_add_tmod d 2
  rw [h] at this
  generalize d.tdiv 2 = q at *
  omega
theorem td_odd {d : Int} (_h : ¬ d.tmod 2 = 0) (h2 : d < 0) : (d - 1).tdiv 2 = d / 2 := by
  have e : (d - 1).tdiv 2 = -((1 - d) / 2) := by
    rw [show d - 1 = -(1 - d) by omega, Int.neg_tdiv, Int.tdiv_eq_ediv_of_nonneg (by omega)]
  have e2 : d.tmod 2 = -((-d) % 2) := by
    rw [← Int.tmod_eq_emod_of_nonneg (show 0 ≤ -d by omega), Int.neg_tmod, Int.neg_neg]
  rw [e]
  rw [e2] at _h
  omega
theorem upK_bd (m : Int) (k : Nat) (hk : k ≤ 8) (h : m.natAbs ≤ 16777216) : (upK m k).natAbs ≤ 4294967296 := by
  unfold upK
  rw [Int.natAbs_mul, Int.natAbs_pow]
  have h3 : 2 ^ k ≤ 2 ^ 8 := Nat.pow_le_pow_right (by omega) hk
  exact Nat.le_trans (Nat.mul_le_mul h h3) (by decide +kernel)
theorem dnK_bd (m : Int) (k : Nat) (h : m.natAbs ≤ 1099511627776) : (dnK m k).natAbs ≤ 1099511627776 := by
  induction k with
  | zero => rw [dnK_zero]; exact h
  | succ k ih => rw [← dnK_succ]; generalize dnK m k = d at *; omega

theorem floor_z (x : Int) (w : World) : Calls Tryz.prog 94 #[.int .i64 0, .int .i64 x] w fun e w' => e = .returned (.agg #[.int .i64 0, .bool true]) ∧ Ext w w' := by
  go_enter Tryz.func94, Tryz.ntmps94
  go_wp2
  refine bodyPost_ret (v := .agg #[.int .i64 0, .bool true]) ?_ rfl ⟨rfl, ?_⟩
  · simp [results, Tryz.results94, go_sem]
  · repeat (first | with_reducible exact Ext.refl _ | with_reducible refine Ext.alloc ?_ _ | with_reducible refine Ext.setCell ?_ (by simp) _)
theorem floor_far (m x : Int) (h0 : (m == 0) = false) (h : x > 8) (w : World) : Calls Tryz.prog 94 #[.int .i64 m, .int .i64 x] w fun e w' => e = .returned (.agg #[.int .i64 0, .bool false]) ∧ Ext w w' := by
  go_enter Tryz.func94, Tryz.ntmps94
  go_wp2
  refine bodyPost_ret (v := .agg #[.int .i64 0, .bool false]) ?_ rfl ⟨rfl, ?_⟩
  · simp [results, Tryz.results94, go_sem]
  · repeat (first | with_reducible exact Ext.refl _ | with_reducible refine Ext.alloc ?_ _ | with_reducible refine Ext.setCell ?_ (by simp) _)
set_option maxHeartbeats 4000000 in
theorem floor_up_lo (m K : Int) (N : Nat) (h0 : (m == 0) = false) (hm : m.natAbs ≤ 16777216) (hx0 : 0 < N) (h8 : N ≤ 8) (hK : upK m N = K) (n1 : K < -2147483647) (w : World) : Calls Tryz.prog 94 #[.int .i64 m, .int .i64 (N : Int)] w fun e w' => e = .returned (.agg #[.int .i64 0, .bool false]) ∧ Ext w w' := by
  have hKK := Lib.hid hK; clear hK
  have h8' : ¬ (N : Int) > 8 := by omega
  go_enter Tryz.func94, Tryz.ntmps94
  go_wp2
  go_loop [0, 5] (fun v0 v5 => ∃ k : Nat, k ≤ N ∧ v0 = .int .i64 (upK m k) ∧ v5 = .int .i64 k) (fun _ i => ((N : Int) - intOf i).toNat)
  case atStart => exact ⟨0, by omega, by rw [upK_zero], rfl⟩
  case round =>
    obtain ⟨k, hk, rfl, rfl⟩ := hrel
    have b1 := upK_bd m k (by omega) hm
    have b2 := upK_bd m (k + 1)
    have b4 := upK_succ m k
    by_cases hlt : k < N
    · have b3 := b2 (by omega) hm
      have hlt' : (k : Int) < N := by omega
      have e1 : IntKind.i64.wrap (upK m k * 2) = upK m (k + 1) := by rw [b4]; exact IntWalk.i64_in _ ⟨by omega, by omega⟩
      have e2 : wrap64 (upK m k * 2) = upK m (k + 1) := by rw [b4]; unfold wrap64; omega
      clear b4 b3 b2 b1
      go_wp2
      go_round
      case rel => exact ⟨k + 1, by omega, rfl, by go_num⟩
      case measure => simp [intOf]; omega
    · obtain rfl : k = N := by omega
      rw [hKK.out]
      clear b4 b2 b1 hlt hk
      have hn : ¬ (0 : Int) > (k : Int) := by omega
      go_wp2
      refine wp_loop_rounds 1 ?_
      rw [rounds_succ]
      go_wp2
      refine bodyPost_ret (v := .agg #[.int .i64 0, .bool false]) ?_ rfl ⟨rfl, ?_⟩
      · simp [results, Tryz.results94, go_sem]
      · repeat (first | with_reducible exact Ext.refl _ | with_reducible refine Ext.alloc ?_ _ | with_reducible refine Ext.setCell ?_ (by simp) _)
set_option maxHeartbeats 4000000 in
theorem floor_up_hi (m K : Int) (N : Nat) (h0 : (m == 0) = false) (hm : m.natAbs ≤ 16777216) (hx0 : 0 < N) (h8 : N ≤ 8) (hK : upK m N = K) (n1 : ¬ K < -2147483647) (n2 : K > 2147483647) (w : World) : Calls Tryz.prog 94 #[.int .i64 m, .int .i64 (N : Int)] w fun e w' => e = .returned (.agg #[.int .i64 0, .bool false]) ∧ Ext w w' := by
  have hKK := Lib.hid hK; clear hK
  have h8' : ¬ (N : Int) > 8 := by omega
  go_enter Tryz.func94, Tryz.ntmps94
  go_wp2
  go_loop [0, 5] (fun v0 v5 => ∃ k : Nat, k ≤ N ∧ v0 = .int .i64 (upK m k) ∧ v5 = .int .i64 k) (fun _ i => ((N : Int) - intOf i).toNat)
  case atStart => exact ⟨0, by omega, by rw [upK_zero], rfl⟩
  case round =>
    obtain ⟨k, hk, rfl, rfl⟩ := hrel
    have b1 := upK_bd m k (by omega) hm
    have b2 := upK_bd m (k + 1)
    have b4 := upK_succ m k
    by_cases hlt : k < N
    · have b3 := b2 (by omega) hm
      have hlt' : (k : Int) < N := by omega
      have e1 : IntKind.i64.wrap (upK m k * 2) = upK m (k + 1) := by rw [b4]; exact IntWalk.i64_in _ ⟨by omega, by omega⟩
      have e2 : wrap64 (upK m k * 2) = upK m (k + 1) := by rw [b4]; unfold wrap64; omega
      clear b4 b3 b2 b1
      go_wp2
      go_round
      case rel => exact ⟨k + 1, by omega, rfl, by go_num⟩
      case measure => simp [intOf]; omega
    · obtain rfl : k = N := by omega
      rw [hKK.out]
      clear b4 b2 b1 hlt hk
      have hn : ¬ (0 : Int) > (k : Int) := by omega
      go_wp2
      refine wp_loop_rounds 1 ?_
      rw [rounds_succ]
      go_wp2
      refine bodyPost_ret (v := .agg #[.int .i64 0, .bool false]) ?_ rfl ⟨rfl, ?_⟩
      · simp [results, Tryz.results94, go_sem]
      · repeat (first | with_reducible exact Ext.refl _ | with_reducible refine Ext.alloc ?_ _ | with_reducible refine Ext.setCell ?_ (by simp) _)
set_option maxHeartbeats 4000000 in
theorem floor_up_ok (m K : Int) (N : Nat) (h0 : (m == 0) = false) (hm : m.natAbs ≤ 16777216) (hx0 : 0 < N) (h8 : N ≤ 8) (hK : upK m N = K) (n1 : ¬ K < -2147483647) (n2 : ¬ K > 2147483647) (w : World) : Calls Tryz.prog 94 #[.int .i64 m, .int .i64 (N : Int)] w fun e w' => e = .returned (.agg #[.int .i64 K, .bool true]) ∧ Ext w w' := by
  have hKK := Lib.hid hK; clear hK
  have h8' : ¬ (N : Int) > 8 := by omega
  go_enter Tryz.func94, Tryz.ntmps94
  go_wp2
  go_loop [0, 5] (fun v0 v5 => ∃ k : Nat, k ≤ N ∧ v0 = .int .i64 (upK m k) ∧ v5 = .int .i64 k) (fun _ i => ((N : Int) - intOf i).toNat)
  case atStart => exact ⟨0, by omega, by rw [upK_zero], rfl⟩
  case round =>
    obtain ⟨k, hk, rfl, rfl⟩ := hrel
    have b1 := upK_bd m k (by omega) hm
    have b2 := upK_bd m (k + 1)
    have b4 := upK_succ m k
    by_cases hlt : k < N
    · have b3 := b2 (by omega) hm
      have hlt' : (k : Int) < N := by omega
      have e1 : IntKind.i64.wrap (upK m k * 2) = upK m (k + 1) := by rw [b4]; exact IntWalk.i64_in _ ⟨by omega, by omega⟩
      have e2 : wrap64 (upK m k * 2) = upK m (k + 1) := by rw [b4]; unfold wrap64; omega
      clear b4 b3 b2 b1
      go_wp2
      go_round
      case rel => exact ⟨k + 1, by omega, rfl, by go_num⟩
      case measure => simp [intOf]; omega
    · obtain rfl : k = N := by omega
      rw [hKK.out]
      clear b4 b2 b1 hlt hk
      have hn : ¬ (0 : Int) > (k : Int) := by omega
      go_wp2
      refine wp_loop_rounds 1 ?_
      rw [rounds_succ]
      go_wp2
      refine bodyPost_ret (v := .agg #[.int .i64 K, .bool true]) ?_ rfl ⟨rfl, ?_⟩
      · simp [results, Tryz.results94, go_sem]
      · repeat (first | with_reducible exact Ext.refl _ | with_reducible refine Ext.alloc ?_ _ | with_reducible refine Ext.setCell ?_ (by simp) _)
set_option maxHeartbeats 4000000 in
theorem floor_dn_lo (m K : Int) (N : Nat) (h0 : (m == 0) = false) (hm : m.natAbs ≤ 1099511627776) (hN : N ≤ 150) (hK : dnK m N = K) (n1 : K < -2147483647) (w : World) : Calls Tryz.prog 94 #[.int .i64 m, .int .i64 (-(N : Int))] w fun e w' => e = .returned (.agg #[.int .i64 0, .bool false]) ∧ Ext w w' := by
  have hKK := Lib.hid hK; clear hK
  have h8' : ¬ (-(N : Int)) > 8 := by omega
  go_enter Tryz.func94, Tryz.ntmps94
  go_wp2
  refine wp_loop_rounds 1 ?_
  rw [rounds_succ]
  have hn : ¬ (0 : Int) < -(N : Int) := by omega
  have hn' : ¬ (N : Int) < 0 := by omega
  go_wp2
  go_loop [0, 6] (fun v0 v6 => ∃ k : Nat, k ≤ N ∧ v0 = .int .i64 (dnK m k) ∧ v6 = .int .i64 (-(k : Int))) (fun _ i => (intOf i + N).toNat)
  case atStart => exact ⟨0, by omega, by rw [dnK_zero], rfl⟩
  case round =>
    obtain ⟨k, hk, rfl, rfl⟩ := hrel
    have b1 := dnK_bd m k hm
    have b4 := dnK_succ m k
    by_cases hlt : k < N
    · have hl1 : (k : Int) < N := by omega
      have hl2 : -(k : Int) > -(N : Int) := by omega
      have e3 : IntKind.i64.wrap (-(k : Int) - 1) = -((k + 1 : Nat) : Int) := by rw [show -(k : Int) - 1 = -((k + 1 : Nat) : Int) by omega]; exact IntWalk.i64_in _ ⟨by omega, by omega⟩
      generalize dnK m k = d at *
      by_cases c1 : d.tmod 2 = 0
      · have e2 : d.tdiv 2 = d / 2 := td_even c1
        have e1 : IntKind.i64.wrap (d / 2) = d / 2 := IntWalk.i64_in _ ⟨by omega, by omega⟩
        have ew : wrap64 (d / 2) = d / 2 := by unfold wrap64; omega
        have ew2 : wrap64 (d - 1) = d - 1 := by unfold wrap64; omega
        have b5 := Lib.hid b4; clear b4 b1
        go_wp2
        all_goals (go_round; (case rel => exact ⟨k + 1, by omega, by rw [b5.out], by go_num⟩); (case measure => simp [intOf]; omega))
      · by_cases c2 : d < 0
        · have e1 : IntKind.i64.wrap (d - 1) = d - 1 := IntWalk.i64_in _ ⟨by omega, by omega⟩
          have e2 : (d - 1).tdiv 2 = d / 2 := td_odd c1 c2
          have e4 : IntKind.i64.wrap (d / 2) = d / 2 := IntWalk.i64_in _ ⟨by omega, by omega⟩
          have ew : wrap64 (d / 2) = d / 2 := by unfold wrap64; omega
          have ew2 : wrap64 (d - 1) = d - 1 := by unfold wrap64; omega
          have b5 := Lib.hid b4; clear b4 b1
          go_wp2
          all_goals (go_round; (case rel => exact ⟨k + 1, by omega, by rw [b5.out], by go_num⟩); (case measure => simp [intOf]; omega))
        · have e2 : d.tdiv 2 = d / 2 := Int.tdiv_eq_ediv_of_nonneg (by omega)
          have e4 : IntKind.i64.wrap (d / 2) = d / 2 := IntWalk.i64_in _ ⟨by omega, by omega⟩
          have ew : wrap64 (d / 2) = d / 2 := by unfold wrap64; omega
          have ew2 : wrap64 (d - 1) = d - 1 := by unfold wrap64; omega
          have b5 := Lib.hid b4; clear b4 b1
          go_wp2
          all_goals (go_round; (case rel => exact ⟨k + 1, by omega, by rw [b5.out], by go_num⟩); (case measure => simp [intOf]; omega))
    · obtain rfl : k = N := by omega
      rw [hKK.out]
      clear b4 b1 hk
      go_wp2
      refine bodyPost_ret (v := .agg #[.int .i64 0, .bool false]) ?_ rfl ⟨rfl, ?_⟩
      · simp [results, Tryz.results94, go_sem]
      · repeat (first | with_reducible exact Ext.refl _ | with_reducible refine Ext.alloc ?_ _ | with_reducible refine Ext.setCell ?_ (by simp) _)
set_option maxHeartbeats 4000000 in
theorem floor_dn_hi (m K : Int) (N : Nat) (h0 : (m == 0) = false) (hm : m.natAbs ≤ 1099511627776) (hN : N ≤ 150) (hK : dnK m N = K) (n1 : ¬ K < -2147483647) (n2 : K > 2147483647) (w : World) : Calls Tryz.prog 94 #[.int .i64 m, .int .i64 (-(N : Int))] w fun e w' => e = .returned (.agg #[.int .i64 0, .bool false]) ∧ Ext w w' := by
  have hKK := Lib.hid hK; clear hK
  have h8' : ¬ (-(N : Int)) > 8 := by omega
  go_enter Tryz.func94, Tryz.ntmps94
  go_wp2
  refine wp_loop_rounds 1 ?_
  rw [rounds_succ]
  have hn : ¬ (0 : Int) < -(N : Int) := by omega
  have hn' : ¬ (N : Int) < 0 := by omega
  go_wp2
  go_loop [0, 6] (fun v0 v6 => ∃ k : Nat, k ≤ N ∧ v0 = .int .i64 (dnK m k) ∧ v6 = .int .i64 (-(k : Int))) (fun _ i => (intOf i + N).toNat)
  case atStart => exact ⟨0, by omega, by rw [dnK_zero], rfl⟩
  case round =>
    obtain ⟨k, hk, rfl, rfl⟩ := hrel
    have b1 := dnK_bd m k hm
    have b4 := dnK_succ m k
    by_cases hlt : k < N
    · have hl1 : (k : Int) < N := by omega
      have hl2 : -(k : Int) > -(N : Int) := by omega
      have e3 : IntKind.i64.wrap (-(k : Int) - 1) = -((k + 1 : Nat) : Int) := by rw [show -(k : Int) - 1 = -((k + 1 : Nat) : Int) by omega]; exact IntWalk.i64_in _ ⟨by omega, by omega⟩
      generalize dnK m k = d at *
      by_cases c1 : d.tmod 2 = 0
      · have e2 : d.tdiv 2 = d / 2 := td_even c1
        have e1 : IntKind.i64.wrap (d / 2) = d / 2 := IntWalk.i64_in _ ⟨by omega, by omega⟩
        have ew : wrap64 (d / 2) = d / 2 := by unfold wrap64; omega
        have ew2 : wrap64 (d - 1) = d - 1 := by unfold wrap64; omega
        have b5 := Lib.hid b4; clear b4 b1
        go_wp2
        all_goals (go_round; (case rel => exact ⟨k + 1, by omega, by rw [b5.out], by go_num⟩); (case measure => simp [intOf]; omega))
      · by_cases c2 : d < 0
        · have e1 : IntKind.i64.wrap (d - 1) = d - 1 := IntWalk.i64_in _ ⟨by omega, by omega⟩
          have e2 : (d - 1).tdiv 2 = d / 2 := td_odd c1 c2
          have e4 : IntKind.i64.wrap (d / 2) = d / 2 := IntWalk.i64_in _ ⟨by omega, by omega⟩
          have ew : wrap64 (d / 2) = d / 2 := by unfold wrap64; omega
          have ew2 : wrap64 (d - 1) = d - 1 := by unfold wrap64; omega
          have b5 := Lib.hid b4; clear b4 b1
          go_wp2
          all_goals (go_round; (case rel => exact ⟨k + 1, by omega, by rw [b5.out], by go_num⟩); (case measure => simp [intOf]; omega))
        · have e2 : d.tdiv 2 = d / 2 := Int.tdiv_eq_ediv_of_nonneg (by omega)
          have e4 : IntKind.i64.wrap (d / 2) = d / 2 := IntWalk.i64_in _ ⟨by omega, by omega⟩
          have ew : wrap64 (d / 2) = d / 2 := by unfold wrap64; omega
          have ew2 : wrap64 (d - 1) = d - 1 := by unfold wrap64; omega
          have b5 := Lib.hid b4; clear b4 b1
          go_wp2
          all_goals (go_round; (case rel => exact ⟨k + 1, by omega, by rw [b5.out], by go_num⟩); (case measure => simp [intOf]; omega))
    · obtain rfl : k = N := by omega
      rw [hKK.out]
      clear b4 b1 hk
      go_wp2
      refine bodyPost_ret (v := .agg #[.int .i64 0, .bool false]) ?_ rfl ⟨rfl, ?_⟩
      · simp [results, Tryz.results94, go_sem]
      · repeat (first | with_reducible exact Ext.refl _ | with_reducible refine Ext.alloc ?_ _ | with_reducible refine Ext.setCell ?_ (by simp) _)
set_option maxHeartbeats 4000000 in
theorem floor_dn_ok (m K : Int) (N : Nat) (h0 : (m == 0) = false) (hm : m.natAbs ≤ 1099511627776) (hN : N ≤ 150) (hK : dnK m N = K) (n1 : ¬ K < -2147483647) (n2 : ¬ K > 2147483647) (w : World) : Calls Tryz.prog 94 #[.int .i64 m, .int .i64 (-(N : Int))] w fun e w' => e = .returned (.agg #[.int .i64 K, .bool true]) ∧ Ext w w' := by
  have hKK := Lib.hid hK; clear hK
  have h8' : ¬ (-(N : Int)) > 8 := by omega
  go_enter Tryz.func94, Tryz.ntmps94
  go_wp2
  refine wp_loop_rounds 1 ?_
  rw [rounds_succ]
  have hn : ¬ (0 : Int) < -(N : Int) := by omega
  have hn' : ¬ (N : Int) < 0 := by omega
  go_wp2
  go_loop [0, 6] (fun v0 v6 => ∃ k : Nat, k ≤ N ∧ v0 = .int .i64 (dnK m k) ∧ v6 = .int .i64 (-(k : Int))) (fun _ i => (intOf i + N).toNat)
  case atStart => exact ⟨0, by omega, by rw [dnK_zero], rfl⟩
  case round =>
    obtain ⟨k, hk, rfl, rfl⟩ := hrel
    have b1 := dnK_bd m k hm
    have b4 := dnK_succ m k
    by_cases hlt : k < N
    · have hl1 : (k : Int) < N := by omega
      have hl2 : -(k : Int) > -(N : Int) := by omega
      have e3 : IntKind.i64.wrap (-(k : Int) - 1) = -((k + 1 : Nat) : Int) := by rw [show -(k : Int) - 1 = -((k + 1 : Nat) : Int) by omega]; exact IntWalk.i64_in _ ⟨by omega, by omega⟩
      generalize dnK m k = d at *
      by_cases c1 : d.tmod 2 = 0
      · have e2 : d.tdiv 2 = d / 2 := td_even c1
        have e1 : IntKind.i64.wrap (d / 2) = d / 2 := IntWalk.i64_in _ ⟨by omega, by omega⟩
        have ew : wrap64 (d / 2) = d / 2 := by unfold wrap64; omega
        have ew2 : wrap64 (d - 1) = d - 1 := by unfold wrap64; omega
        have b5 := Lib.hid b4; clear b4 b1
        go_wp2
        all_goals (go_round; (case rel => exact ⟨k + 1, by omega, by rw [b5.out], by go_num⟩); (case measure => simp [intOf]; omega))
      · by_cases c2 : d < 0
        · have e1 : IntKind.i64.wrap (d - 1) = d - 1 := IntWalk.i64_in _ ⟨by omega, by omega⟩
          have e2 : (d - 1).tdiv 2 = d / 2 := td_odd c1 c2
          have e4 : IntKind.i64.wrap (d / 2) = d / 2 := IntWalk.i64_in _ ⟨by omega, by omega⟩
          have ew : wrap64 (d / 2) = d / 2 := by unfold wrap64; omega
          have ew2 : wrap64 (d - 1) = d - 1 := by unfold wrap64; omega
          have b5 := Lib.hid b4; clear b4 b1
          go_wp2
          all_goals (go_round; (case rel => exact ⟨k + 1, by omega, by rw [b5.out], by go_num⟩); (case measure => simp [intOf]; omega))
        · have e2 : d.tdiv 2 = d / 2 := Int.tdiv_eq_ediv_of_nonneg (by omega)
          have e4 : IntKind.i64.wrap (d / 2) = d / 2 := IntWalk.i64_in _ ⟨by omega, by omega⟩
          have ew : wrap64 (d / 2) = d / 2 := by unfold wrap64; omega
          have ew2 : wrap64 (d - 1) = d - 1 := by unfold wrap64; omega
          have b5 := Lib.hid b4; clear b4 b1
          go_wp2
          all_goals (go_round; (case rel => exact ⟨k + 1, by omega, by rw [b5.out], by go_num⟩); (case measure => simp [intOf]; omega))
    · obtain rfl : k = N := by omega
      rw [hKK.out]
      clear b4 b1 hk
      go_wp2
      refine bodyPost_ret (v := .agg #[.int .i64 K, .bool true]) ?_ rfl ⟨rfl, ?_⟩
      · simp [results, Tryz.results94, go_sem]
      · repeat (first | with_reducible exact Ext.refl _ | with_reducible refine Ext.alloc ?_ _ | with_reducible refine Ext.setCell ?_ (by simp) _)
theorem floor_any (m x : Int) (hm : m.natAbs ≤ 1099511627776) (hu : 0 < x → m.natAbs ≤ 16777216) (hlo : -150 ≤ x) : Ret 94 #[.int .i64 m, .int .i64 x] (.agg #[.int .i64 (floV m x).1, .bool (floV m x).2]) := fun w => by
  unfold floV
  by_cases h0 : m = 0
  · rw [if_pos h0, h0]; exact floor_z x w
  have e0 : (m == 0) = false := by simpa using h0
  rw [if_neg h0]
  by_cases h1 : 8 < x
  · rw [if_pos h1]; exact floor_far m x e0 h1 w
  rw [if_neg h1]
  unfold cutU
  by_cases h2 : 0 < x
  · rw [if_pos h2]
    obtain ⟨N, rfl⟩ : ∃ N : Nat, x = N := ⟨x.toNat, by omega⟩
    rw [show (N : Int).toNat = N by omega]
    by_cases n1 : m * 2 ^ N < -2147483647
    · rw [if_pos (.inl n1)]; exact floor_up_lo m _ N e0 (hu h2) (by omega) (by omega) rfl n1 w
    · by_cases n2 : 2147483647 < m * 2 ^ N
      · rw [if_pos (.inr n2)]; exact floor_up_hi m _ N e0 (hu h2) (by omega) (by omega) rfl n1 n2 w
      · rw [if_neg (fun h => h.elim n1 n2)]; exact floor_up_ok m _ N e0 (hu h2) (by omega) (by omega) rfl n1 n2 w
  · rw [if_neg h2]
    obtain ⟨N, rfl⟩ : ∃ N : Nat, x = -(N : Int) := ⟨(-x).toNat, by omega⟩
    rw [show (- -(N : Int)).toNat = N by omega]
    by_cases n1 : m / 2 ^ N < -2147483647
    · rw [if_pos (.inl n1)]; exact floor_dn_lo m _ N e0 hm (by omega) rfl n1 w
    · by_cases n2 : 2147483647 < m / 2 ^ N
      · rw [if_pos (.inr n2)]; exact floor_dn_hi m _ N e0 hm (by omega) rfl n1 n2 w
      · rw [if_neg (fun h => h.elim n1 n2)]; exact floor_dn_ok m _ N e0 hm (by omega) rfl n1 n2 w
theorem made_false (n : Int) : Ret 93 #[.agg #[.int .i64 n, .bool false]] (.agg #[.int .i64 0, .int .i64 3]) := fun w => by
  go_enter Tryz.func93, Tryz.ntmps93
  go_wp2
  refine bodyPost_ret (v := .agg #[.int .i64 0, .int .i64 3]) ?_ rfl ⟨rfl, ?_⟩
  · simp [results, Tryz.results93, go_sem]
  · repeat (first | with_reducible exact Ext.refl _ | with_reducible refine Ext.alloc ?_ _ | with_reducible refine Ext.setCell ?_ (by simp) _)
theorem made_true (n : Int) : Ret 93 #[.agg #[.int .i64 n, .bool true]] (.agg #[.int .i64 n, .int .i64 0]) := fun w => by
  go_enter Tryz.func93, Tryz.ntmps93
  go_wp2
  refine bodyPost_ret (v := .agg #[.int .i64 n, .int .i64 0]) ?_ rfl ⟨rfl, ?_⟩
  · simp [results, Tryz.results93, go_sem]
  · repeat (first | with_reducible exact Ext.refl _ | with_reducible refine Ext.alloc ?_ _ | with_reducible refine Ext.setCell ?_ (by simp) _)
def madeV (p : Int × Bool) : Int × Int := if p.2 then (p.1, 0) else (0, 3)
theorem made_any (p : Int × Bool) : Ret 93 #[.agg #[.int .i64 p.1, .bool p.2]] (.agg #[.int .i64 (madeV p).1, .int .i64 (madeV p).2]) := by
  obtain ⟨n, b⟩ := p
  cases b
  · exact made_false n
  · exact made_true n
theorem ref_entier (m x : Int) (h : m.natAbs ≤ 16777216) (hlo : -150 ≤ x) : Ret 50 #[.agg #[.int .i64 m, .int .i64 x]] (.agg #[.int .i64 (madeV (floV m x)).1, .int .i64 (madeV (floV m x)).2]) := fun w => by
  have A := floor_any m x (by omega) (fun _ => h) hlo
  have B := made_any (floV m x)
  generalize floV m x = p at *
  generalize madeV p = q at *
  obtain ⟨p1, p2⟩ := p
  obtain ⟨q1, q2⟩ := q
  simp only at A B
  clear h hlo
  go_enter Tryz.func50, Tryz.ntmps50
  go_wp2_with fail
  refine (A _).mono ?_
  rintro e w1 ⟨rfl, hx⟩
  have sz : w.heap.size + 1 + 1 ≤ w1.heap.size := by simpa using hx.size
  have c0 : w1.cell? ⟨w.heap.size + 1, 0, none⟩ = some (.int .i64 0) := (hx.cell 0 (by simp)).trans (by simp [go_sem])
  have c1 : w1.cell? ⟨w.heap.size + 1, 1, none⟩ = some (.int .i64 0) := (hx.cell 1 (by simp)).trans (by simp [go_sem])
  have f0 : ∀ j, w1.frozen? ⟨w.heap.size + 1, j, none⟩ = false := fun j => (hx.froz j (by simp)).trans (by simp [go_sem])
  have X : Hid (Ext w w1) := Lib.hid (Ext.trans (by repeat (first | with_reducible exact Ext.refl _ | with_reducible refine Ext.alloc ?_ _)) hx)
  clear hx
  go_wp2_with fail
  refine (B _).mono ?_
  rintro e w2 ⟨rfl, hx⟩
  have c0 := (hx.cell 0 (b := w.heap.size + 1) (by omega)).trans c0
  have c1 := (hx.cell 1 (b := w.heap.size + 1) (by omega)).trans c1
  have f0 : ∀ j, w2.frozen? ⟨w.heap.size + 1, j, none⟩ = false := fun j => (hx.froz j (by omega)).trans (f0 j)
  have X : Hid (Ext w w2) := Lib.hid (X.out.trans hx)
  clear hx sz
  go_wp2
  refine bodyPost_ret (v := .agg #[.int .i64 q1, .int .i64 q2]) ?_ rfl ⟨rfl, ?_⟩
  · simp [results, Tryz.results50, go_sem, c0, c1]
  · repeat (first | with_reducible exact X.out | with_reducible refine Ext.setCell ?_ (by simp; try omega) _)
def roundsV (m x : Int) : Int × Int := if x < -40 then (0, 0) else if 0 ≤ x then madeV (floV m x) else madeV (floV (m + 2 ^ (-1 - x).toNat) x)
theorem rounds_far (m x : Int) (h1 : ¬ x ≥ 0) (h : x < -40) : Ret 51 #[.agg #[.int .i64 m, .int .i64 x]] (.agg #[.int .i64 0, .int .i64 0]) := fun w => by
  go_enter Tryz.func51, Tryz.ntmps51
  go_wp2
  refine bodyPost_ret (v := .agg #[.int .i64 0, .int .i64 0]) ?_ rfl ⟨rfl, ?_⟩
  · simp [results, Tryz.results51, go_sem]
  · repeat (first | with_reducible exact Ext.refl _ | with_reducible refine Ext.alloc ?_ _ | with_reducible refine Ext.setCell ?_ (by simp) _)
theorem rounds_int (m x : Int) (h : x ≥ 0) (h1 : ¬ x < -40) (hm : m.natAbs ≤ 16777216) : Ret 51 #[.agg #[.int .i64 m, .int .i64 x]] (.agg #[.int .i64 (madeV (floV m x)).1, .int .i64 (madeV (floV m x)).2]) := fun w => by
  have A := ref_entier m x hm (by omega)
  generalize madeV (floV m x) = q at *
  obtain ⟨q1, q2⟩ := q
  simp only at A
  clear hm
  go_enter Tryz.func51, Tryz.ntmps51
  go_wp2_with fail
  refine (A _).mono ?_
  rintro e w1 ⟨rfl, hx⟩
  have c0 : w1.cell? ⟨w.heap.size + 1, 0, none⟩ = some (.int .i64 0) := (hx.cell 0 (by simp)).trans (by simp [go_sem])
  have c1 : w1.cell? ⟨w.heap.size + 1, 1, none⟩ = some (.int .i64 0) := (hx.cell 1 (by simp)).trans (by simp [go_sem])
  have f0 : ∀ j, w1.frozen? ⟨w.heap.size + 1, j, none⟩ = false := fun j => (hx.froz j (by simp)).trans (by simp [go_sem])
  have X : Hid (Ext w w1) := Lib.hid (Ext.trans (by repeat (first | with_reducible exact Ext.refl _ | with_reducible refine Ext.alloc ?_ _)) hx)
  clear hx
  go_wp2
  refine bodyPost_ret (v := .agg #[.int .i64 q1, .int .i64 q2]) ?_ rfl ⟨rfl, ?_⟩
  · simp [results, Tryz.results51, go_sem, c0, c1]
  · repeat (first | with_reducible exact X.out | with_reducible refine Ext.setCell ?_ (by simp; try omega) _)
def pw2 (k : Nat) : Int := 2 ^ k
theorem pw2_z : pw2 0 = 1 := rfl
theorem pw2_s (k : Nat) : pw2 k * 2 = pw2 (k + 1) := by unfold pw2; rw [Int.pow_succ]
theorem pw2_bd (k : Nat) (h : k ≤ 39) : 1 ≤ pw2 k ∧ pw2 k ≤ 549755813888 := by
  unfold pw2
  have h3 : (2 : Nat) ^ k ≤ 2 ^ 39 := Nat.pow_le_pow_right (by omega) h
  have h4 : 0 < (2 : Nat) ^ k := Nat.pow_pos (by omega)
  have e : (2 : Int) ^ k = ((2 ^ k : Nat) : Int) := by simp
  rw [e]; omega
set_option maxHeartbeats 4000000 in
theorem rounds_half (m x H : Int) (N : Nat) (hx : x = -1 - (N : Int)) (h : ¬ x ≥ 0) (h1 : ¬ x < -40) (hm : m.natAbs ≤ 16777216) (hH : pw2 N = H) : Ret 51 #[.agg #[.int .i64 m, .int .i64 x]] (.agg #[.int .i64 (madeV (floV (m + H) x)).1, .int .i64 (madeV (floV (m + H) x)).2]) := fun w => by
  have hb := pw2_bd N (by omega)
  have A := floor_any (m + H) x (by omega) (fun _ => by omega) (by omega)
  have B := made_any (floV (m + H) x)
  generalize floV (m + H) x = p at *
  generalize madeV p = q at *
  obtain ⟨p1, p2'⟩ := p
  obtain ⟨q1, q2⟩ := q
  simp only at A B
  have hw : IntKind.i64.wrap (m + H) = m + H := IntWalk.i64_in _ ⟨by omega, by omega⟩
  have hKK := Lib.hid hH; have hX := Lib.hid hx; clear hH hb hm hx
  go_enter Tryz.func51, Tryz.ntmps51
  go_wp2
  go_loop [3, 4] (fun v3 v4 => ∃ k : Nat, k ≤ N ∧ v3 = .int .i64 (pw2 k) ∧ v4 = .int .i64 (-1 - (k : Int))) (fun _ i => (intOf i - x).toNat)
  case atStart => exact ⟨0, by omega, by rw [pw2_z], rfl⟩
  case round =>
    obtain ⟨k, hk, rfl, rfl⟩ := hrel
    by_cases hlt : -1 - (k : Int) > x
    · have hkN : k < N := by have := hX.out; omega
      have b1 := pw2_bd (k + 1) (by have := hX.out; omega)
      have e1 : IntKind.i64.wrap (pw2 k * 2) = pw2 (k + 1) := by rw [pw2_s]; exact IntWalk.i64_in _ ⟨by omega, by omega⟩
      have e2 : wrap64 (pw2 k * 2) = pw2 (k + 1) := by rw [pw2_s]; unfold wrap64; omega
      have e3 : IntKind.i64.wrap (-1 - (k : Int) - 1) = -1 - ((k + 1 : Nat) : Int) := by rw [show -1 - (k : Int) - 1 = -1 - ((k + 1 : Nat) : Int) by omega]; exact IntWalk.i64_in _ ⟨by omega, by omega⟩
      clear b1
      go_wp2
      go_round
      case rel => exact ⟨k + 1, by omega, rfl, by go_num⟩
      case measure => simp [intOf]; omega
    · obtain rfl : k = N := by have := hX.out; omega
      rw [hKK.out]
      go_wp2_with fail
      refine (A _).mono ?_
      rintro e w1 ⟨rfl, hx⟩
      have sz : w.heap.size + 1 + 1 ≤ w1.heap.size := by simpa using hx.size
      have c0 : w1.cell? ⟨w.heap.size + 1, 0, none⟩ = some (.int .i64 0) := (hx.cell 0 (by simp)).trans (by simp [go_sem])
      have c1 : w1.cell? ⟨w.heap.size + 1, 1, none⟩ = some (.int .i64 0) := (hx.cell 1 (by simp)).trans (by simp [go_sem])
      have f0 : ∀ j, w1.frozen? ⟨w.heap.size + 1, j, none⟩ = false := fun j => (hx.froz j (by simp)).trans (by simp [go_sem])
      have X : Hid (Ext w w1) := Lib.hid (Ext.trans (by repeat (first | with_reducible exact Ext.refl _ | with_reducible refine Ext.alloc ?_ _)) hx)
      clear hx
      go_wp2_with fail
      refine (B _).mono ?_
      rintro e w2 ⟨rfl, hx⟩
      have c0 := (hx.cell 0 (b := w.heap.size + 1) (by omega)).trans c0
      have c1 := (hx.cell 1 (b := w.heap.size + 1) (by omega)).trans c1
      have f0 : ∀ j, w2.frozen? ⟨w.heap.size + 1, j, none⟩ = false := fun j => (hx.froz j (by omega)).trans (f0 j)
      have X : Hid (Ext w w2) := Lib.hid (X.out.trans hx)
      clear hx sz
      go_wp2
      refine bodyPost_ret (v := .agg #[.int .i64 q1, .int .i64 q2]) ?_ rfl ⟨rfl, ?_⟩
      · simp [results, Tryz.results51, go_sem, c0, c1]
      · repeat (first | with_reducible exact X.out | with_reducible refine Ext.setCell ?_ (by simp; try omega) _)
theorem rounds_any (m x : Int) (hm : m.natAbs ≤ 16777216) : Ret 51 #[.agg #[.int .i64 m, .int .i64 x]] (.agg #[.int .i64 (roundsV m x).1, .int .i64 (roundsV m x).2]) := by
  unfold roundsV
  by_cases h1 : x < -40
  · rw [if_pos h1]; exact rounds_far m x (by omega) h1
  rw [if_neg h1]
  by_cases h2 : 0 ≤ x
  · rw [if_pos h2]; exact rounds_int m x h2 h1 hm
  · rw [if_neg h2]; exact rounds_half m x _ (-1 - x).toNat (by omega) h2 h1 hm rfl
/-! ### They are what the program gives -/
theorem made_U (a : Int) : madeV (cutU a) = wholeU a := by
  unfold madeV cutU wholeU
  split <;> rfl
theorem entier_eq {m x : Int} (h : Vd m x) : madeV (floV m x) = wholeU (sc m x / H150) := by
  unfold floV
  by_cases h0 : m = 0
  · rw [if_pos h0, (sc_zero m x).2 h0]; rfl
  rw [if_neg h0]
  have sx : sc m x = m * 2 ^ (x + 150).toNat := rfl
  by_cases h1 : 8 < x
  · rw [if_pos h1]
    have h2 : 8388608 ≤ m.natAbs := by rcases h.2.2.2.2 h0 with e | e <;> omega
    have h3 : 2 ^ 159 ≤ 2 ^ (x + 150).toNat := Nat.pow_le_pow_right (by omega) (by omega)
    have h4 : 8388608 * 2 ^ 159 ≤ m.natAbs * 2 ^ (x + 150).toNat := Nat.mul_le_mul h2 h3
    rw [← sc_abs] at h4
    have h5 : 8388608 * 2 ^ 159 = 6129982163463555433433388108601236734474956488734408704 := by decide +kernel
    rw [h5] at h4
    rw [show madeV (0, false) = (0, 3) from rfl]
    unfold wholeU
    rw [if_pos]
    generalize sc m x = S at *
    unfold H150
    omega
  rw [if_neg h1, made_U]
  congr 1
  rw [sx, ← h150]
  by_cases h2 : 0 < x
  · rw [if_pos h2, show (x + 150).toNat = x.toNat + 150 by omega, Int.pow_add, ← Int.mul_assoc, Int.mul_ediv_cancel _ (by rw [h150]; decide)]
  · rw [if_neg h2]
    have hb := h.2.1
    have e : (2 : Int) ^ 150 = 2 ^ (-x).toNat * 2 ^ (x + 150).toNat := by rw [← Int.pow_add]; exact congrArg (fun k => (2 : Int) ^ k) (by omega)
    rw [e, Int.mul_ediv_mul_of_pos_left _ _ (ipow_pos _)]
theorem rounds_eq {m x : Int} (h : Vd m x) : roundsV m x = wholeU ((sc m x + H149) / H150) := by
  have hb := h.2.1
  unfold roundsV
  have sx : sc m x = m * 2 ^ (x + 150).toNat := rfl
  by_cases h1 : x < -40
  · rw [if_pos h1]
    have l1 := sc_lt_exp h
    have l2 : 2 ^ (x + 150).toNat ≤ 2 ^ 109 := Nat.pow_le_pow_right (by omega) (by omega)
    have l3 : 16777216 * 2 ^ (x + 150).toNat ≤ 16777216 * 2 ^ 109 := Nat.mul_le_mul_left _ l2
    have l4 : 16777216 * 2 ^ 109 = 10889035741470030830827987437816582766592 := by decide +kernel
    rw [l4] at l3
    have : (sc m x + H149) / H150 = 0 := by
      generalize 16777216 * 2 ^ (x + 150).toNat = T at *
      generalize sc m x = S at *
      unfold H149 H150
      omega
    rw [this]; rfl
  rw [if_neg h1]
  by_cases h2 : 0 ≤ x
  · rw [if_pos h2, entier_eq h]
    congr 1
    obtain ⟨M, hM⟩ : ∃ M, sc m x = M * H150 := ⟨m * 2 ^ x.toNat, by
      rw [sx, ← h150, Int.mul_assoc, ← Int.pow_add]; exact congrArg (fun k => m * (2 : Int) ^ k) (by omega)⟩
    rw [hM]
    unfold H149 H150
    omega
  rw [if_neg h2]
  unfold floV
  by_cases h0 : m + 2 ^ (-1 - x).toNat = 0
  · rw [if_pos h0]
    have : sc m x + H149 = 0 := by
      rw [sx, ← h149, show (2 : Int) ^ 149 = 2 ^ (-1 - x).toNat * 2 ^ (x + 150).toNat by rw [← Int.pow_add]; exact congrArg (fun k => (2 : Int) ^ k) (by omega), ← Int.add_mul, h0, Int.zero_mul]
    rw [this]; rfl
  rw [if_neg h0, if_neg (by omega), if_neg (by omega), made_U]
  congr 1
  rw [sx, ← h150, ← h149, show (2 : Int) ^ 149 = 2 ^ (-1 - x).toNat * 2 ^ (x + 150).toNat by rw [← Int.pow_add]; exact congrArg (fun k => (2 : Int) ^ k) (by omega), ← Int.add_mul]
  have e : (2 : Int) ^ 150 = 2 ^ (-x).toNat * 2 ^ (x + 150).toNat := by rw [← Int.pow_add]; exact congrArg (fun k => (2 : Int) ^ k) (by omega)
  rw [e, Int.mul_ediv_mul_of_pos_left _ _ (ipow_pos _)]
end Go.Proofs.YtehmpffffjcloaaGreatDoor
