/- Layer 2: numeric strings rounded, as the program does it. -/
import Derived.Test.YtoeahfddnjbhbaaGreatDoorNt
import Derived.Test.YtoeahfddnjbhbaaGreatDoorNr
import Derived.Test.YtoeahfddnjbhbaaGreatDoorNu
import Derived.Outline
namespace Go.Proofs.YtoeahfddnjbhbaaGreatDoor
open Go.RowKit

theorem plus_small (n v : Nat) (h : v < 18446744073709551616) (w : World) :
    Calls Tryz.prog 120 #[.agg #[.int .u64 (L n 0), .int .u64 (L n 1), .int .u64 (L n 2), .int .u64 (L n 3), .int .u64 (L n 4), .int .u64 (L n 5)], .agg #[.int .u64 v, .int .u64 0, .int .u64 0, .int .u64 0, .int .u64 0, .int .u64 0]] w fun e w' => e = .returned (.agg #[.int .u64 (L (n + v) 0), .int .u64 (L (n + v) 1), .int .u64 (L (n + v) 2), .int .u64 (L (n + v) 3), .int .u64 (L (n + v) 4), .int .u64 (L (n + v) 5)]) ∧ Ext w w' := by
  obtain ⟨h0, h1, h2, h3, h4, h5⟩ := L_small v h
  have := plus_any n v w
  rw [h0, h1, h2, h3, h4, h5] at this
  exact this
theorem timesPower_one (p : Nat) (hp : p ≤ 9223372036854775807) (w : World) (ht : PowR w) :
    Calls Tryz.prog 121 #[.agg #[.int .u64 (L 1 0), .int .u64 (L 1 1), .int .u64 (L 1 2), .int .u64 (L 1 3), .int .u64 (L 1 4), .int .u64 (L 1 5)], .int .i64 p] w fun e w' => e = .returned (.agg #[.int .u64 (L (tp p) 0), .int .u64 (L (tp p) 1), .int .u64 (L (tp p) 2), .int .u64 (L (tp p) 3), .int .u64 (L (tp p) 4), .int .u64 (L (tp p) 5)]) ∧ Ext w w' := by
  have := timesPower_any 1 p hp w ht
  rw [Nat.one_mul] at this
  exact this
theorem dig_u8 {c : UInt8} (h : isDg c = true) : (48 : Int) ≤ c.toNat ∧ (c.toNat : Int) ≤ 57 := by
  unfold isDg at h; simp at h; omega
def decA (A : Nat) (sc : Int) : Nat := if 0 ≤ sc then A * 10 ^ sc.toNat % M384 else A
def decB (sc : Int) : Nat := if 0 ≤ sc then 1 else 10 ^ (-sc).toNat % M384
theorem numV_eq (neg : Bool) (ds : List UInt8) (sc : Int) (h0 : ds ≠ []) (h1 : ¬ (ds.length : Int) + sc ≤ -46) (h2 : ¬ 53 < (ds.length : Int) + sc) :
    numV ⟨neg, ds, sc⟩ = roundV neg (ratioS (decA (decF ds) sc) (decB sc)).1 (ratioE (decA (decF ds) sc) (decB sc) - 31) (decide ((ratioS (decA (decF ds) sc) (decB sc)).2 ≠ 0)) := by
  unfold numV
  simp only
  rw [if_neg (by intro h; rcases h with h | h; exact h0 h; exact h1 h), if_neg h2]
  rfl
theorem ratioE_bd (a b : Nat) (ha : a < N6) (hb : b < N6) : -1000 ≤ ratioE a b - 31 ∧ ratioE a b - 31 ≤ 1000 := by
  have := nb_le384 ha
  have := nb_le384 hb
  unfold ratioE; omega

set_option maxRecDepth 100000 in
set_option maxHeartbeats 4000000 in
theorem num_main (neg : Bool) (d : ByteArray) (sc : Int) (r : Option (Int × Int)) (hr : r = numV ⟨neg, d.data.toList, sc⟩) (hd0 : 0 < d.size) (hd : d.size ≤ 60) (hdig : d.data.toList.all isDg = true) (h1 : -20000 ≤ sc) (h2 : sc ≤ 20000) (n1 : ¬ d.toList = []) (n2 : d.toList.isEmpty = false)
   (hp1 : ¬ (d.size : Int) + sc ≤ -46) (hp2 : ¬ 53 < (d.size : Int) + sc) (w : World) (ht : PowR w) :
    Calls Tryz.prog 96 #[.agg #[.bool neg, .string d, .int .i64 sc]] w fun e w' => Ends r e ∧ Ext w w' := by
  have b1 : (d.size : Int) ≤ 60 := by omega
  have hlen : d.data.toList.length = d.size := by simp
  have HR := Lib.hid (hr.trans (numV_eq neg d.data.toList sc (by intro e; rw [e] at hlen; simp at hlen; omega) (by rw [hlen]; exact hp1) (by rw [hlen]; exact hp2)))
  have T := Lib.hid ht
  have HD := Lib.hid hdig
  clear hr ht hdig hlen
  have kc := fun (w : World) => Lib.run_convert_string_bytes (P := Tryz.prog) w 9 125 5 d Tryz.underlying9 Tryz.underlying125 Tryz.underlying5
  have LF := Lib.hid (decF_lt d.data.toList)
  go_enter Tryz.func96, Tryz.ntmps96
  go_wp2
  clear kc n1 n2
  have N0 : NW w (Lib.bytesWorld ((((w.alloc (.cells #[.bool neg, .string d, .int .i64 sc] 97)).alloc (.cells #[.int .i64 0, .int .i64 0] 23)).alloc (.cells #[.int .u64 0, .int .u64 0, .int .u64 0, .int .u64 0, .int .u64 0, .int .u64 0] 124)).alloc (.cells #[.int .u64 1, .int .u64 0, .int .u64 0, .int .u64 0, .int .u64 0, .int .u64 0] 124)) 5 d) neg d sc (decF (d.data.toList.take 0)) 1 := by
    have e0 : decF (d.data.toList.take 0) = 0 := rfl
    rw [e0]
    have sA := six_new ((w.alloc (.cells #[.bool neg, .string d, .int .i64 sc] 97)).alloc (.cells #[.int .i64 0, .int .i64 0] 23)) (fun _ => 0) 124
    have sB := six_new (((w.alloc (.cells #[.bool neg, .string d, .int .i64 sc] 97)).alloc (.cells #[.int .i64 0, .int .i64 0] 23)).alloc (.cells #[.int .u64 0, .int .u64 0, .int .u64 0, .int .u64 0, .int .u64 0, .int .u64 0] 124)) (fun j => if j = 0 then 1 else 0) 124
    simp only [World.size_alloc] at sA sB
    have ex : Ext ((((w.alloc (.cells #[.bool neg, .string d, .int .i64 sc] 97)).alloc (.cells #[.int .i64 0, .int .i64 0] 23)).alloc (.cells #[.int .u64 0, .int .u64 0, .int .u64 0, .int .u64 0, .int .u64 0, .int .u64 0] 124)).alloc (.cells #[.int .u64 1, .int .u64 0, .int .u64 0, .int .u64 0, .int .u64 0, .int .u64 0] 124)) (Lib.bytesWorld ((((w.alloc (.cells #[.bool neg, .string d, .int .i64 sc] 97)).alloc (.cells #[.int .i64 0, .int .i64 0] 23)).alloc (.cells #[.int .u64 0, .int .u64 0, .int .u64 0, .int .u64 0, .int .u64 0, .int .u64 0] 124)).alloc (.cells #[.int .u64 1, .int .u64 0, .int .u64 0, .int .u64 0, .int .u64 0, .int .u64 0] 124)) 5 d) := ⟨⟨rfl, rfl, rfl, by rw [Lib.bytesWorld_size]; omega, fun k hk => Lib.bytesWorld_at_old _ _ _ k hk⟩⟩
    have sz := Lib.bytesWorld_size ((((w.alloc (.cells #[.bool neg, .string d, .int .i64 sc] 97)).alloc (.cells #[.int .i64 0, .int .i64 0] 23)).alloc (.cells #[.int .u64 0, .int .u64 0, .int .u64 0, .int .u64 0, .int .u64 0, .int .u64 0] 124)).alloc (.cells #[.int .u64 1, .int .u64 0, .int .u64 0, .int .u64 0, .int .u64 0, .int .u64 0] 124)) 5 d
    have bc := fun j hj => Lib.bytesWorld_cell ((((w.alloc (.cells #[.bool neg, .string d, .int .i64 sc] 97)).alloc (.cells #[.int .i64 0, .int .i64 0] 23)).alloc (.cells #[.int .u64 0, .int .u64 0, .int .u64 0, .int .u64 0, .int .u64 0, .int .u64 0] 124)).alloc (.cells #[.int .u64 1, .int .u64 0, .int .u64 0, .int .u64 0, .int .u64 0, .int .u64 0] 124)) 5 d j hj
    simp only [World.size_alloc] at sz bc
    obtain ⟨l0, l1, l2, l3, l4, l5⟩ := L_small 1 (by omega)
    refine ⟨(ex.cell 0 (by simp; try omega)).trans (by simp [go_sem]), (ex.cell 2 (by simp; try omega)).trans (by simp [go_sem]), (ex.cell 0 (by simp; try omega)).trans (by simp [go_sem]), (ex.cell 1 (by simp; try omega)).trans (by simp [go_sem]), fun j => (ex.froz j (by simp; try omega)).trans (by simp [go_sem]),
      ((sA.of_eq (fun j _ => limb_zero _ _)).later ((Ext.refl _).alloc _)).later ex, (sB.of_eq (fun j hj => ?_)).later ex, bc, by rw [sz]; omega, ((((Ext.refl w).alloc _).alloc _).alloc _).alloc _ |>.trans ex⟩
    have : j = 0 ∨ j = 1 ∨ j = 2 ∨ j = 3 ∨ j = 4 ∨ j = 5 := by omega
    rcases this with rfl | rfl | rfl | rfl | rfl | rfl <;> simp [l0, l1, l2, l3, l4, l5]
  generalize Lib.bytesWorld _ _ _ = w0 at *
  go_loopw [32] (fun i wr => ∃ k : Nat, k ≤ d.size ∧ i = .int .i64 k ∧ NW w wr neg d sc (decF (d.data.toList.take k)) 1) (fun i _ => d.size - (intOf i).toNat)
  case atStart => exact ⟨0, by omega, rfl, N0⟩
  case round =>
    obtain ⟨k, hk, rfl, hn⟩ := hrel
    clear N0
    by_cases hlt : k < d.size
    · have hc := hn.by' k hlt
      have hmem : d.data.toList.getD k 0 ∈ d.data.toList := by
        have h' : k < d.data.toList.length := by simpa using hlt
        rw [List.getD_eq_getElem?_getD, List.getElem?_eq_getElem h']; exact List.getElem_mem _
      obtain ⟨g1, g2⟩ := dig_u8 (List.all_eq_true.1 HD.out _ hmem)
      clear hmem
      have HF := Lib.hid (decF_take d k hlt)
      have N := Lib.hid hn
      clear hn
      generalize d.data.toList.getD k 0 = c at *
      have HP := Lib.hid (fun j (hj : j < 6) => decN_place (decF (d.data.toList.take k)) c hj)
      generalize decF (d.data.toList.take k) = A at *
      obtain ⟨v, hv⟩ : ∃ v : Nat, v = c.toNat - 48 := ⟨_, rfl⟩
      have HP2 : Hid (∀ j, j < 6 → L (A * 10 + v) j = L (decN A c) j) := by rw [hv]; exact HP.out
      have hvb : v < 10 := by omega
      have hcv : (c.toNat : Int) = (v : Int) + 48 := by omega
      rw [hcv] at hc
      clear hv HP hcv g1 g2
      have hu : IntKind.u8.wrap ((v : Int) + 48 - 48) = (v : Int) := by rw [show (v : Int) + 48 - 48 = v by omega]; exact IntWalk.u8_in _ ⟨by omega, by omega⟩
      obtain ⟨a0, a1, a2, a3, a4, a5⟩ := N.out.a.cells
      go_wp2_with fail
      refine (times_any A 10 (by omega) _).mono ?_
      rintro e v1 ⟨rfl, hx1⟩
      clear a0 a1 a2 a3 a4 a5 hc
      have N1 := Lib.hid (N.out.later hx1)
      clear N hx1
      go_wp2_with fail
      refine (plus_small (A * 10) v (by omega) _).mono ?_
      rintro e v2 ⟨rfl, hx2⟩
      have N := Lib.hid (N1.out.later hx2)
      clear N1 hx2
      obtain ⟨a0, a1, a2, a3, a4, a5⟩ := N.out.a.cells
      have f0 := N.out.a.froz
      go_wp2
      go_roundw
      case rel => exact ⟨k + 1, by omega, by go_num, by rw [HF.out]; exact (N.out.putA (A * 10 + v) rfl rfl).of_eq (fun j hj => (HP2.out j hj).symm) (fun _ _ => rfl)⟩
      case measure => simp [intOf]; omega
    · have hT : d.data.toList.take k = d.data.toList := List.take_of_length_le (by simp; omega)
      rw [hT] at hn
      clear hT
      have N := Lib.hid hn
      clear hn
      generalize decF d.data.toList = A at *
      by_cases hs : 0 ≤ sc
      · obtain ⟨p, rfl⟩ : ∃ p : Nat, sc = p := ⟨sc.toNat, by omega⟩
        have eA : Hid (∀ j, j < 6 → L (decA A p) j = L (A * tp p) j) := Lib.hid (fun j hj => by unfold decA; rw [if_pos hs, Int.toNat_natCast]; exact L_mod _ hj)
        have lA : Hid (decA A p < N6) := Lib.hid (by unfold decA; rw [if_pos hs]; exact mod_N6 _)
        have eB : Hid (decB p = 1) := Lib.hid (by unfold decB; rw [if_pos hs])
        have lB : Hid (decB p < N6) := Lib.hid (by rw [eB.out]; decide +kernel)
        generalize decA A p = AA at *
        generalize decB p = BB at *
        obtain ⟨a0, a1, a2, a3, a4, a5⟩ := N.out.a.cells
        have n2 := N.out.n2
        go_wp2_with fail
        refine (timesPower_any A p (by omega) _ (T.out.later N.out.x)).mono ?_
        rintro e v3 ⟨rfl, hx3⟩
        clear a0 a1 a2 a3 a4 a5 n2
        have N1 := Lib.hid (N.out.later hx3)
        clear N hx3
        obtain ⟨c0, c1, c2, c3, c4, c5⟩ := N1.out.a.cells
        have cf := N1.out.a.froz
        have N := Lib.hid ((N1.out.putA (A * tp p) rfl rfl).of_eq (A' := AA) (B' := BB) eA.out (fun j _ => by rw [eB.out]))
        obtain ⟨a0, a1, a2, a3, a4, a5⟩ := N.out.a.cells
        obtain ⟨b0, b1', b2, b3, b4, b5⟩ := N.out.b.cells
        clear N1
        go_wp2_with fail
        refine (ratio_any _ _ lA.out lB.out _).mono ?_
        rintro e v4 ⟨rfl, hx4⟩
        clear c0 c1 c2 c3 c4 c5 cf a0 a1 a2 a3 a4 a5 b0 b1' b2 b3 b4 b5
        have N := Lib.hid (N.out.later hx4)
        clear hx4
        have big := N.out.big
        have hE1 := ratioE_bd _ _ lA.out lB.out
        have hM1 := ratioS_man AA BB
        generalize (ratioS AA BB).1 = man at *
        generalize decide ((ratioS AA BB).2 ≠ 0) = more at *
        generalize ratioE AA BB - 31 = ex at *
        have n0 := N.out.n0
        have q0 : ∀ ob, (v4.alloc ob).cell? ⟨w.heap.size, 0, none⟩ = some (.bool neg) := fun ob => (((Ext.refl v4).alloc ob).cell 0 (by omega)).trans n0
        go_wp2_with fail
        refine (rounded_ends neg more man ex (by omega) (by omega) (by omega) _).mono ?_
        rintro e v5 ⟨hE, hx5⟩
        rw [← HR.out] at hE
        have N := Lib.hid (N.out.later (Ext.trans ((Ext.refl v4).alloc _) hx5))
        clear hx5 q0 n0
        cases r with
        | none =>
          obtain rfl : e = RangePanic := hE
          exact ⟨rfl, rfl, N.out.x⟩
        | some p =>
          obtain ⟨m, x⟩ := p
          obtain rfl : e = .returned (.agg #[.int .i64 m, .int .i64 x]) := hE
          have r0 := N.out.r0
          have r1 := N.out.r1
          have rf := N.out.rf
          go_wp2
          refine bodyPost_ret (v := .agg #[.int .i64 m, .int .i64 x]) ?_ rfl ⟨rfl, ?_⟩
          · simp [results, Tryz.results96, go_sem, r0, r1]
          · exact (N.out.x.setCell (by simp) _).setCell (by simp) _
      · obtain ⟨p, rfl⟩ : ∃ p : Nat, sc = -(p : Int) := ⟨(-sc).toNat, by omega⟩
        have eA : Hid (decA A (-(p : Int)) = A) := Lib.hid (by unfold decA; rw [if_neg hs])
        have lA : Hid (decA A (-(p : Int)) < N6) := Lib.hid (by rw [eA.out]; exact LF.out)
        have eB : Hid (∀ j, j < 6 → L (decB (-(p : Int))) j = L (tp p) j) := Lib.hid (fun j hj => by unfold decB; rw [if_neg hs, Int.neg_neg, Int.toNat_natCast]; exact L_mod _ hj)
        have lB : Hid (decB (-(p : Int)) < N6) := Lib.hid (by unfold decB; rw [if_neg hs]; exact mod_N6 _)
        generalize decA A (-(p : Int)) = AA at *
        generalize decB (-(p : Int)) = BB at *
        obtain ⟨a0, a1, a2, a3, a4, a5⟩ := N.out.b.cells
        have n2 := N.out.n2
        go_wp2_with fail
        refine (timesPower_one p (by omega) _ (T.out.later N.out.x)).mono ?_
        rintro e v3 ⟨rfl, hx3⟩
        clear a0 a1 a2 a3 a4 a5 n2
        have N1 := Lib.hid (N.out.later hx3)
        clear N hx3
        obtain ⟨c0, c1, c2, c3, c4, c5⟩ := N1.out.b.cells
        have cf := N1.out.b.froz
        have N := Lib.hid ((N1.out.putB (tp p) rfl rfl).of_eq (A' := AA) (B' := BB) (fun j _ => by rw [eA.out]) eB.out)
        obtain ⟨a0, a1, a2, a3, a4, a5⟩ := N.out.a.cells
        obtain ⟨b0, b1', b2, b3, b4, b5⟩ := N.out.b.cells
        clear N1
        go_wp2_with fail
        refine (ratio_any _ _ lA.out lB.out _).mono ?_
        rintro e v4 ⟨rfl, hx4⟩
        clear c0 c1 c2 c3 c4 c5 cf a0 a1 a2 a3 a4 a5 b0 b1' b2 b3 b4 b5
        have N := Lib.hid (N.out.later hx4)
        clear hx4
        have big := N.out.big
        have hE1 := ratioE_bd _ _ lA.out lB.out
        have hM1 := ratioS_man AA BB
        generalize (ratioS AA BB).1 = man at *
        generalize decide ((ratioS AA BB).2 ≠ 0) = more at *
        generalize ratioE AA BB - 31 = ex at *
        have n0 := N.out.n0
        have q0 : ∀ ob, (v4.alloc ob).cell? ⟨w.heap.size, 0, none⟩ = some (.bool neg) := fun ob => (((Ext.refl v4).alloc ob).cell 0 (by omega)).trans n0
        go_wp2_with fail
        refine (rounded_ends neg more man ex (by omega) (by omega) (by omega) _).mono ?_
        rintro e v5 ⟨hE, hx5⟩
        rw [← HR.out] at hE
        have N := Lib.hid (N.out.later (Ext.trans ((Ext.refl v4).alloc _) hx5))
        clear hx5 q0 n0
        cases r with
        | none =>
          obtain rfl : e = RangePanic := hE
          exact ⟨rfl, rfl, N.out.x⟩
        | some p =>
          obtain ⟨m, x⟩ := p
          obtain rfl : e = .returned (.agg #[.int .i64 m, .int .i64 x]) := hE
          have r0 := N.out.r0
          have r1 := N.out.r1
          have rf := N.out.rf
          go_wp2
          refine bodyPost_ret (v := .agg #[.int .i64 m, .int .i64 x]) ?_ rfl ⟨rfl, ?_⟩
          · simp [results, Tryz.results96, go_sem, r0, r1]
          · exact (N.out.x.setCell (by simp) _).setCell (by simp) _

end Go.Proofs.YtoeahfddnjbhbaaGreatDoor
