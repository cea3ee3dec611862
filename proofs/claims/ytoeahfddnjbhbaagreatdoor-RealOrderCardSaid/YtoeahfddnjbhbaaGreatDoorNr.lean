/- Layer 2: quotients of naturals, as the program makes them. -/
import Derived.Test.YtoeahfddnjbhbaaGreatDoorNj
import Derived.Test.YtoeahfddnjbhbaaGreatDoorNp
import Derived.Test.YtoeahfddnjbhbaaGreatDoorGa
import Derived.Test.YtoeahfddnjbhbaaGreatDoorNs
import Derived.Deep.RegionHeld3
import Derived.Outline
namespace Go.Proofs.YtoeahfddnjbhbaaGreatDoor
open Go.RowKit

theorem length_any (n : Nat) (hn : n < N6) (w : World) :
    Calls Tryz.prog 144 #[.agg #[.int .u64 (L n 0), .int .u64 (L n 1), .int .u64 (L n 2), .int .u64 (L n 3), .int .u64 (L n 4), .int .u64 (L n 5)]] w fun e w' => e = .returned (.int .i64 (nb n)) ∧ Ext w w' := length_V n _ rfl hn w
theorem nb_le384 {n : Nat} (h : n < N6) : nb n ≤ 384 := by
  by_cases h0 : n = 0
  · subst h0; rw [nb_zero]; omega
  · obtain ⟨a, b, c⟩ := nb_lo h0
    have h' : n < 2 ^ 384 := by rw [← N6_eq]; exact h
    have := (Nat.pow_lt_pow_iff_right (by omega)).1 (Nat.lt_of_le_of_lt b h')
    omega

set_option maxRecDepth 100000 in
set_option maxHeartbeats 4000000 in
theorem ratio_pos (a b aa bb s : Nat) (V1 : Nat) (V2 : Int) (V3 : Bool) (hs : s = nb a - nb b) (haa : aa = a) (hbb : bb = shN b s) (hV1 : V1 = (rsteps bb 32 (0, aa)).1) (hV2 : V2 = (s : Int) - 31) (hV3 : V3 = decide ((rsteps bb 32 (0, aa)).2 ≠ 0)) (ha : a < N6) (hb : b < N6) (hg : nb b < nb a) (w : World) :
    Calls Tryz.prog 122 #[.agg #[.int .u64 (L a 0), .int .u64 (L a 1), .int .u64 (L a 2), .int .u64 (L a 3), .int .u64 (L a 4), .int .u64 (L a 5)], .agg #[.int .u64 (L b 0), .int .u64 (L b 1), .int .u64 (L b 2), .int .u64 (L b 3), .int .u64 (L b 4), .int .u64 (L b 5)]] w fun e w' => e = .returned (.agg #[.bool false, .int .u64 V1, .int .i64 V2, .bool V3]) ∧ Ext w w' := by
  have na := nb_le384 ha
  have nb' := nb_le384 hb
  have HA := Lib.hid ha
  have HB := Lib.hid hb
  have HV1 := Lib.hid hV1
  have HV3 := Lib.hid hV3
  clear ha hb hV1 hV3
  have laa : Hid (aa < N6) := Lib.hid (by rw [haa]; exact HA.out)
  have lbb : Hid (bb < N6) := Lib.hid (by rw [hbb]; exact shN_lt _ _)
  have shl : Hid (∀ j, j < 6 → L bb j = L (b * p2 s) j) := Lib.hid (by rw [hbb]; unfold shN p2; exact fun j hj => L_mod _ hj)
  have same : Hid (aa = a) := Lib.hid haa
  have hw : IntKind.i64.wrap ((nb a : Int) - (nb b : Int)) = (s : Int) := by
    rw [IntWalk.i64_in _ ⟨by omega, by omega⟩]; omega
  have hs2 : s ≤ 384 := by omega
  have hs3 : (0 : Int) ≤ s := by omega
  have g0 : (0 : Int) < s := by omega
  have VV := Lib.hid hV2
  clear haa hbb hs hg hV2
  go_enter Tryz.func122, Tryz.ntmps122
  go_wp2
  have S := Lib.hid (((six_new w (L a) 124).later ((Ext.refl _).alloc (.cells #[.int .u64 (L b 0), .int .u64 (L b 1), .int .u64 (L b 2), .int .u64 (L b 3), .int .u64 (L b 4), .int .u64 (L b 5)] 124))).later ((Ext.refl _).alloc (.cells #[.bool false, .int .u64 0, .int .i64 0, .bool false] 73)))
  have M := Lib.hid ((six_new (w.alloc (.cells #[.int .u64 (L a 0), .int .u64 (L a 1), .int .u64 (L a 2), .int .u64 (L a 3), .int .u64 (L a 4), .int .u64 (L a 5)] 124)) (L b) 124).later ((Ext.refl _).alloc (.cells #[.bool false, .int .u64 0, .int .i64 0, .bool false] 73)))
  have R := Lib.hid (ex4_new ((w.alloc (.cells #[.int .u64 (L a 0), .int .u64 (L a 1), .int .u64 (L a 2), .int .u64 (L a 3), .int .u64 (L a 4), .int .u64 (L a 5)] 124)).alloc (.cells #[.int .u64 (L b 0), .int .u64 (L b 1), .int .u64 (L b 2), .int .u64 (L b 3), .int .u64 (L b 4), .int .u64 (L b 5)] 124)) 73)
  have X := Lib.hid ((((Ext.refl w).alloc (.cells #[.int .u64 (L a 0), .int .u64 (L a 1), .int .u64 (L a 2), .int .u64 (L a 3), .int .u64 (L a 4), .int .u64 (L a 5)] 124)).alloc (.cells #[.int .u64 (L b 0), .int .u64 (L b 1), .int .u64 (L b 2), .int .u64 (L b 3), .int .u64 (L b 4), .int .u64 (L b 5)] 124)).alloc (.cells #[.bool false, .int .u64 0, .int .i64 0, .bool false] 73))
  simp only [World.size_alloc] at M R
  obtain ⟨u0, hu0⟩ : ∃ u : World, u = (((w.alloc (.cells #[.int .u64 (L a 0), .int .u64 (L a 1), .int .u64 (L a 2), .int .u64 (L a 3), .int .u64 (L a 4), .int .u64 (L a 5)] 124)).alloc (.cells #[.int .u64 (L b 0), .int .u64 (L b 1), .int .u64 (L b 2), .int .u64 (L b 3), .int .u64 (L b 4), .int .u64 (L b 5)] 124)).alloc (.cells #[.bool false, .int .u64 0, .int .i64 0, .bool false] 73)) := ⟨_, rfl⟩
  rw [← hu0] at S M R X ⊢
  have HU := Lib.hid hu0
  clear hu0
  have keepE : ∀ u u' : World, (fun w' : World => (w'.cell? ⟨w.heap.size, 0, none⟩ = some (.int .u64 (L a 0)) ∧ w'.cell? ⟨w.heap.size, 1, none⟩ = some (.int .u64 (L a 1)) ∧ w'.cell? ⟨w.heap.size, 2, none⟩ = some (.int .u64 (L a 2)) ∧ w'.cell? ⟨w.heap.size, 3, none⟩ = some (.int .u64 (L a 3)) ∧ w'.cell? ⟨w.heap.size, 4, none⟩ = some (.int .u64 (L a 4)) ∧ w'.cell? ⟨w.heap.size, 5, none⟩ = some (.int .u64 (L a 5)) ∧ w'.cell? ⟨(w.heap.size + 1), 0, none⟩ = some (.int .u64 (L b 0)) ∧ w'.cell? ⟨(w.heap.size + 1), 1, none⟩ = some (.int .u64 (L b 1)) ∧ w'.cell? ⟨(w.heap.size + 1), 2, none⟩ = some (.int .u64 (L b 2)) ∧ w'.cell? ⟨(w.heap.size + 1), 3, none⟩ = some (.int .u64 (L b 3)) ∧ w'.cell? ⟨(w.heap.size + 1), 4, none⟩ = some (.int .u64 (L b 4)) ∧ w'.cell? ⟨(w.heap.size + 1), 5, none⟩ = some (.int .u64 (L b 5)))) u → Ext u u' → (fun w' : World => (w'.cell? ⟨w.heap.size, 0, none⟩ = some (.int .u64 (L a 0)) ∧ w'.cell? ⟨w.heap.size, 1, none⟩ = some (.int .u64 (L a 1)) ∧ w'.cell? ⟨w.heap.size, 2, none⟩ = some (.int .u64 (L a 2)) ∧ w'.cell? ⟨w.heap.size, 3, none⟩ = some (.int .u64 (L a 3)) ∧ w'.cell? ⟨w.heap.size, 4, none⟩ = some (.int .u64 (L a 4)) ∧ w'.cell? ⟨w.heap.size, 5, none⟩ = some (.int .u64 (L a 5)) ∧ w'.cell? ⟨(w.heap.size + 1), 0, none⟩ = some (.int .u64 (L b 0)) ∧ w'.cell? ⟨(w.heap.size + 1), 1, none⟩ = some (.int .u64 (L b 1)) ∧ w'.cell? ⟨(w.heap.size + 1), 2, none⟩ = some (.int .u64 (L b 2)) ∧ w'.cell? ⟨(w.heap.size + 1), 3, none⟩ = some (.int .u64 (L b 3)) ∧ w'.cell? ⟨(w.heap.size + 1), 4, none⟩ = some (.int .u64 (L b 4)) ∧ w'.cell? ⟨(w.heap.size + 1), 5, none⟩ = some (.int .u64 (L b 5)))) u' := by
    rintro u u' ⟨g0, g1, g2, g3, g4, g5, g6, g7, g8, g9, g10, g11⟩ hx
    exact ⟨(hx.cell 0 (World.block_lt_of_cell? u _ g0)).trans g0, (hx.cell 1 (World.block_lt_of_cell? u _ g1)).trans g1, (hx.cell 2 (World.block_lt_of_cell? u _ g2)).trans g2, (hx.cell 3 (World.block_lt_of_cell? u _ g3)).trans g3, (hx.cell 4 (World.block_lt_of_cell? u _ g4)).trans g4, (hx.cell 5 (World.block_lt_of_cell? u _ g5)).trans g5, (hx.cell 0 (World.block_lt_of_cell? u _ g6)).trans g6, (hx.cell 1 (World.block_lt_of_cell? u _ g7)).trans g7, (hx.cell 2 (World.block_lt_of_cell? u _ g8)).trans g8, (hx.cell 3 (World.block_lt_of_cell? u _ g9)).trans g9, (hx.cell 4 (World.block_lt_of_cell? u _ g10)).trans g10, (hx.cell 5 (World.block_lt_of_cell? u _ g11)).trans g11⟩
  have keep0 : (fun w' : World => (w'.cell? ⟨w.heap.size, 0, none⟩ = some (.int .u64 (L a 0)) ∧ w'.cell? ⟨w.heap.size, 1, none⟩ = some (.int .u64 (L a 1)) ∧ w'.cell? ⟨w.heap.size, 2, none⟩ = some (.int .u64 (L a 2)) ∧ w'.cell? ⟨w.heap.size, 3, none⟩ = some (.int .u64 (L a 3)) ∧ w'.cell? ⟨w.heap.size, 4, none⟩ = some (.int .u64 (L a 4)) ∧ w'.cell? ⟨w.heap.size, 5, none⟩ = some (.int .u64 (L a 5)) ∧ w'.cell? ⟨(w.heap.size + 1), 0, none⟩ = some (.int .u64 (L b 0)) ∧ w'.cell? ⟨(w.heap.size + 1), 1, none⟩ = some (.int .u64 (L b 1)) ∧ w'.cell? ⟨(w.heap.size + 1), 2, none⟩ = some (.int .u64 (L b 2)) ∧ w'.cell? ⟨(w.heap.size + 1), 3, none⟩ = some (.int .u64 (L b 3)) ∧ w'.cell? ⟨(w.heap.size + 1), 4, none⟩ = some (.int .u64 (L b 4)) ∧ w'.cell? ⟨(w.heap.size + 1), 5, none⟩ = some (.int .u64 (L b 5)))) u0 := by
    obtain ⟨c0, c1, c2, c3, c4, c5⟩ := S.out.cells
    obtain ⟨d0, d1, d2, d3, d4, d5⟩ := M.out.cells
    exact ⟨c0, c1, c2, c3, c4, c5, d0, d1, d2, d3, d4, d5⟩
  have KE := Lib.hid keepE
  have K0 := Lib.hid keep0
  clear keepE keep0
  go_region_held3 (fun w' : World => (w'.cell? ⟨w.heap.size, 0, none⟩ = some (.int .u64 (L a 0)) ∧ w'.cell? ⟨w.heap.size, 1, none⟩ = some (.int .u64 (L a 1)) ∧ w'.cell? ⟨w.heap.size, 2, none⟩ = some (.int .u64 (L a 2)) ∧ w'.cell? ⟨w.heap.size, 3, none⟩ = some (.int .u64 (L a 3)) ∧ w'.cell? ⟨w.heap.size, 4, none⟩ = some (.int .u64 (L a 4)) ∧ w'.cell? ⟨w.heap.size, 5, none⟩ = some (.int .u64 (L a 5)) ∧ w'.cell? ⟨(w.heap.size + 1), 0, none⟩ = some (.int .u64 (L b 0)) ∧ w'.cell? ⟨(w.heap.size + 1), 1, none⟩ = some (.int .u64 (L b 1)) ∧ w'.cell? ⟨(w.heap.size + 1), 2, none⟩ = some (.int .u64 (L b 2)) ∧ w'.cell? ⟨(w.heap.size + 1), 3, none⟩ = some (.int .u64 (L b 3)) ∧ w'.cell? ⟨(w.heap.size + 1), 4, none⟩ = some (.int .u64 (L b 4)) ∧ w'.cell? ⟨(w.heap.size + 1), 5, none⟩ = some (.int .u64 (L b 5)))) ((refine KE.out _ _ K0.out ?_; (repeat (first | with_reducible exact Ext.refl _ | assumption | with_reducible refine Ext.drew ?_ | with_reducible refine Ext.drewN ?_ _ | refine Ext.trans ?_ (by assumption))); done)) (first | (go_at_call 144; ((with_reducible refine (length_any a HA.out _).mono ?_); rintro e v1 ⟨rfl, hx⟩)) | (go_at_call 144; ((with_reducible refine (length_any b HB.out _).mono ?_); rintro e v1 ⟨rfl, hx⟩)))
  have HX : Ext u0 v1 := ((Ext.refl u0).drew.trans (by assumption)).trans hx
  have S2 := Lib.hid (S.out.later HX)
  have M2 := Lib.hid (M.out.later HX)
  have R2 := Lib.hid (R.out.later HX)
  have X2 := Lib.hid (X.out.trans HX)
  clear S M R X
  have S := S2
  have M := M2
  have R := R2
  have X := X2
  clear S2 M2 R2 X2
  clear HX hx KE K0 HU
  obtain ⟨c0, c1, c2, c3, c4, c5⟩ := S.out.cells
  obtain ⟨d0, d1, d2, d3, d4, d5⟩ := M.out.cells
  go_wp2_with fail
  refine (shifted_any b s (by omega) _).mono ?_
  rintro e v2 ⟨rfl, hx2⟩
  clear c0 c1 c2 c3 c4 c5 d0 d1 d2 d3 d4 d5
  have S2 := Lib.hid (S.out.later hx2)
  have M2 := Lib.hid (M.out.later hx2)
  have R2 := Lib.hid (R.out.later hx2)
  have X2 := Lib.hid (X.out.trans hx2)
  clear S M R X
  have S := S2
  have M := M2
  have R := R2
  have X := X2
  clear S2 M2 R2 X2
  clear hx2
  obtain ⟨c0, c1, c2, c3, c4, c5⟩ := S.out.cells
  obtain ⟨d0, d1, d2, d3, d4, d5⟩ := M.out.cells
  have f0 := S.out.froz
  have f1 := M.out.froz
  go_wp2
  clear c0 c1 c2 c3 c4 c5 d0 d1 d2 d3 d4 d5 f0 f1
  have SA : Hid (Six _ w.heap.size (L aa)) := Lib.hid ((S.out.put_other (Y := L (b * p2 s)) (b := w.heap.size + 1) (by omega)).of_eq (fun j _ => by rw [same.out]))
  have MA : Hid (Six _ (w.heap.size + 1) (L bb)) := Lib.hid ((M.out.put (L (b * p2 s))).of_eq (fun j hj => shl.out j hj))
  have RA : Hid (Ex4 _ (w.heap.size + 1 + 1)) := Lib.hid (R.out.put_other (Y := L (b * p2 s)) (c := w.heap.size + 1) (by omega))
  have XA : Hid (Ext w _) := Lib.hid (X.out.put (Y := L (b * p2 s)) (b := w.heap.size + 1) (by omega))
  clear S M R X
  go_loopw [6, 21] (fun mn i wr => ∃ k : Nat, k ≤ 32 ∧ i = .int .i64 k ∧ mn = .int .u64 ((rsteps bb k (0, aa)).1 : Nat) ∧ Six wr w.heap.size (L (rsteps bb k (0, aa)).2) ∧ Six wr (w.heap.size + 1) (L bb) ∧ Ex4 wr (w.heap.size + 1 + 1) ∧ Ext w wr) (fun _ i _ => 32 - (intOf i).toNat)
  case atStart => exact ⟨0, by omega, rfl, rfl, SA.out, MA.out, RA.out, XA.out⟩
  case round =>
    obtain ⟨k, hk, rfl, rfl, hs, hm, hr, hx⟩ := hrel
    clear SA MA RA XA
    have hx6 : Hid ((rsteps bb k (0, aa)).2 < N6) := Lib.hid (rsteps_lt laa.out 0 k)
    have hm32 := rsteps_man32 bb aa hk
    have mw1 : IntKind.u64.wrap (((rsteps bb k (0, aa)).1 : Int) * 2) = ((rsteps bb k (0, aa)).1 : Int) * 2 := IntWalk.u64_in _ ⟨by omega, by omega⟩
    have mw2 : IntKind.u64.wrap (((rsteps bb k (0, aa)).1 : Int) * 2 + 1) = ((rsteps bb k (0, aa)).1 : Int) * 2 + 1 := IntWalk.u64_in _ ⟨by omega, by omega⟩
    have S := Lib.hid hs
    have M := Lib.hid hm
    have R := Lib.hid hr
    have X := Lib.hid hx
    clear hs hm hr hx
    by_cases hlt : k < 32
    · have E1 := Lib.hid (@rsteps_ge bb aa k)
      have E2 := Lib.hid (@rsteps_lt' bb aa k)
      generalize hmx : rsteps bb k (0, aa) = mx at *
      clear hmx
      obtain ⟨m, x⟩ := mx
      simp only at S hx6 hm32 mw1 mw2 E1 E2 ⊢
      obtain ⟨c0, c1, c2, c3, c4, c5⟩ := S.out.cells
      obtain ⟨d0, d1, d2, d3, d4, d5⟩ := M.out.cells
      by_cases hge : bb ≤ x
      · have hcm : (0 : Int) ≤ cmpN x bb := by unfold cmpN; split <;> (try split) <;> omega
        have E := Lib.hid (E1.out hge)
        clear E1 E2
        obtain ⟨d, rfl⟩ : ∃ d, x = d + bb := ⟨x - bb, by omega⟩
        clear hge
        go_wp2_with fail
        refine (compare_any _ _ hx6.out lbb.out _).mono ?_
        rintro e v3 ⟨rfl, hx3⟩
        clear c0 c1 c2 c3 c4 c5 d0 d1 d2 d3 d4 d5
        have S2 := Lib.hid (S.out.later hx3)
        have M2 := Lib.hid (M.out.later hx3)
        have R2 := Lib.hid (R.out.later hx3)
        have X2 := Lib.hid (X.out.trans hx3)
        clear S M R X
        have S := S2
        have M := M2
        have R := R2
        have X := X2
        clear S2 M2 R2 X2
        clear hx3
        obtain ⟨c0, c1, c2, c3, c4, c5⟩ := S.out.cells
        obtain ⟨d0, d1, d2, d3, d4, d5⟩ := M.out.cells
        go_wp2_with fail
        refine (minus_any d bb _).mono ?_
        rintro e v4 ⟨rfl, hx4⟩
        clear c0 c1 c2 c3 c4 c5 d0 d1 d2 d3 d4 d5
        have S2 := Lib.hid (S.out.later hx4)
        have M2 := Lib.hid (M.out.later hx4)
        have R2 := Lib.hid (R.out.later hx4)
        have X2 := Lib.hid (X.out.trans hx4)
        clear S M R X
        have S := S2
        have M := M2
        have R := R2
        have X := X2
        clear S2 M2 R2 X2
        clear hx4
        have S2 := Lib.hid (S.out.put (L d))
        have M2 := Lib.hid (M.out.put_other (Y := L d) (b := w.heap.size) (by omega))
        have R2 := Lib.hid (R.out.put_other (Y := L d) (c := w.heap.size) (by omega))
        have X2 := Lib.hid (X.out.put (Y := L d) (b := w.heap.size) (Nat.le_refl _))
        obtain ⟨c0, c1, c2, c3, c4, c5⟩ := S.out.cells
        have f0 := S.out.froz
        obtain ⟨e0, e1, e2, e3, e4, e5⟩ := S2.out.cells
        clear S M R X
        go_wp2_with fail
        clear c0 c1 c2 c3 c4 c5 f0 e0 e1 e2 e3 e4 e5
        refine (plus_any d d _).mono ?_
        rintro e v5 ⟨rfl, hx5⟩
        have S := Lib.hid (S2.out.later hx5)
        have M := Lib.hid (M2.out.later hx5)
        have R := Lib.hid (R2.out.later hx5)
        have X := Lib.hid (X2.out.trans hx5)
        clear S2 M2 R2 X2 hx5
        obtain ⟨c0, c1, c2, c3, c4, c5⟩ := S.out.cells
        have f0 := S.out.froz
        go_wp2
        go_roundw
        case rel => exact ⟨k + 1, by omega, by go_num, by rw [E.out]; go_num, by rw [E.out]; exact (S.out.put (L (d + d))).of_eq (fun j hj => by rw [L_mod _ hj, Nat.add_sub_cancel]), M.out.put_other (by omega), R.out.put_other (by omega), X.out.put (Nat.le_refl _)⟩
        case measure => simp [intOf]; omega
      · have hcm : ¬ (0 : Int) ≤ cmpN x bb := by unfold cmpN; rw [if_pos (by omega)]; omega
        have E := Lib.hid (E2.out hge)
        clear E1 E2 hge
        go_wp2_with fail
        refine (compare_any _ _ hx6.out lbb.out _).mono ?_
        rintro e v3 ⟨rfl, hx3⟩
        clear c0 c1 c2 c3 c4 c5 d0 d1 d2 d3 d4 d5
        have S2 := Lib.hid (S.out.later hx3)
        have M2 := Lib.hid (M.out.later hx3)
        have R2 := Lib.hid (R.out.later hx3)
        have X2 := Lib.hid (X.out.trans hx3)
        clear S M R X
        have S := S2
        have M := M2
        have R := R2
        have X := X2
        clear S2 M2 R2 X2
        clear hx3
        obtain ⟨c0, c1, c2, c3, c4, c5⟩ := S.out.cells
        go_wp2_with fail
        refine (plus_any x x _).mono ?_
        rintro e v5 ⟨rfl, hx5⟩
        clear c0 c1 c2 c3 c4 c5
        have S2 := Lib.hid (S.out.later hx5)
        have M2 := Lib.hid (M.out.later hx5)
        have R2 := Lib.hid (R.out.later hx5)
        have X2 := Lib.hid (X.out.trans hx5)
        clear S M R X
        have S := S2
        have M := M2
        have R := R2
        have X := X2
        clear S2 M2 R2 X2
        clear hx5
        obtain ⟨c0, c1, c2, c3, c4, c5⟩ := S.out.cells
        have f0 := S.out.froz
        go_wp2
        go_roundw
        case rel => exact ⟨k + 1, by omega, by go_num, by rw [E.out]; go_num, by rw [E.out]; exact (S.out.put (L (x + x))).of_eq (fun j hj => L_mod _ hj), M.out.put_other (by omega), R.out.put_other (by omega), X.out.put (Nat.le_refl _)⟩
        case measure => simp [intOf]; omega
    · obtain rfl : k = 32 := by omega
      have v1 := HV1.out
      have v3 := HV3.out
      have v2 := VV.out
      generalize hmx : rsteps bb 32 (0, aa) = mx at *
      clear hmx HV1 HV3 VV
      obtain ⟨m, x⟩ := mx
      simp only at S hx6 hm32 mw1 mw2 v1 v3 ⊢
      subst v1 v2
      have r0 := R.out.c0
      have r1 := R.out.c1
      have r2 := R.out.c2
      have r3 := R.out.c3
      have rf := R.out.froz
      by_cases hx0 : x = 0
      · subst hx0
        obtain rfl : V3 = false := by rw [v3]; simp
        clear v3
        have S0 : Six wr w.heap.size (fun _ => 0) := S.out.of_eq (fun j _ => (limb_zero _ _).symm)
        obtain ⟨c0, c1, c2, c3, c4, c5⟩ := S0.cells
        clear S0
        have EQ := eqNat 0 0 0 0 0 0 0 0 0 0 0 0
        simp only [beq_self_eq_true, Bool.and_self] at EQ
        go_wp2
        refine bodyPost_ret (v := .agg #[.bool false, .int .u64 V1, .int .i64 ((s : Int) - 31), .bool false]) ?_ rfl ⟨rfl, ?_⟩
        · simp [results, Tryz.results122, go_sem, r0, r1, r2, r3]
        · repeat (first | with_reducible exact X.out | with_reducible refine Ext.setCell ?_ (by first | (simp; done) | (simp; omega)) _)
      · obtain rfl : V3 = true := by rw [v3]; simp [hx0]
        clear v3
        obtain ⟨c0, c1, c2, c3, c4, c5⟩ := S.out.cells
        have hne : ¬ (L x 0 = 0 ∧ L x 1 = 0 ∧ L x 2 = 0 ∧ L x 3 = 0 ∧ L x 4 = 0 ∧ L x 5 = 0) := fun ⟨h0, h1, h2, h3, h4, h5⟩ => hx0 (zero_of_places hx6.out (fun j hj => by
          have : j = 0 ∨ j = 1 ∨ j = 2 ∨ j = 3 ∨ j = 4 ∨ j = 5 := by omega
          rcases this with rfl | rfl | rfl | rfl | rfl | rfl <;> assumption))
        have hbl : ((L x 0 : Int) == 0 && ((L x 1 : Int) == 0 && ((L x 2 : Int) == 0 && ((L x 3 : Int) == 0 && ((L x 4 : Int) == 0 && (L x 5 : Int) == 0))))) = false := by
          rw [← Bool.not_eq_true]; intro h
          simp only [Bool.and_eq_true, beq_iff_eq] at h
          exact hne (by omega)
        have EQ : ∀ w : World, (Op.equalIn 10000 124 (.agg #[.int .u64 (L x 0), .int .u64 (L x 1), .int .u64 (L x 2), .int .u64 (L x 3), .int .u64 (L x 4), .int .u64 (L x 5)]) (.agg #[.int .u64 0, .int .u64 0, .int .u64 0, .int .u64 0, .int .u64 0, .int .u64 0])).run Tryz.prog w = .ok false w := fun w => by rw [eqNat, hbl]
        clear hne hbl
        go_wp2
        refine bodyPost_ret (v := .agg #[.bool false, .int .u64 V1, .int .i64 ((s : Int) - 31), .bool true]) ?_ rfl ⟨rfl, ?_⟩
        · simp [results, Tryz.results122, go_sem, r0, r1, r2, r3]
        · repeat (first | with_reducible exact X.out | with_reducible refine Ext.setCell ?_ (by first | (simp; done) | (simp; omega)) _)

set_option maxRecDepth 100000 in
set_option maxHeartbeats 4000000 in
theorem ratio_neg (a b aa bb s : Nat) (V1 : Nat) (V2 : Int) (V3 : Bool) (hs : s = nb b - nb a) (haa : aa = shN a s) (hbb : bb = b) (hV1 : V1 = (rsteps bb 32 (0, aa)).1) (hV2 : V2 = -(s : Int) - 31) (hV3 : V3 = decide ((rsteps bb 32 (0, aa)).2 ≠ 0)) (ha : a < N6) (hb : b < N6) (hg : nb a ≤ nb b) (w : World) :
    Calls Tryz.prog 122 #[.agg #[.int .u64 (L a 0), .int .u64 (L a 1), .int .u64 (L a 2), .int .u64 (L a 3), .int .u64 (L a 4), .int .u64 (L a 5)], .agg #[.int .u64 (L b 0), .int .u64 (L b 1), .int .u64 (L b 2), .int .u64 (L b 3), .int .u64 (L b 4), .int .u64 (L b 5)]] w fun e w' => e = .returned (.agg #[.bool false, .int .u64 V1, .int .i64 V2, .bool V3]) ∧ Ext w w' := by
  have na := nb_le384 ha
  have nb' := nb_le384 hb
  have HA := Lib.hid ha
  have HB := Lib.hid hb
  have HV1 := Lib.hid hV1
  have HV3 := Lib.hid hV3
  clear ha hb hV1 hV3
  have laa : Hid (aa < N6) := Lib.hid (by rw [haa]; exact shN_lt _ _)
  have lbb : Hid (bb < N6) := Lib.hid (by rw [hbb]; exact HB.out)
  have shl : Hid (∀ j, j < 6 → L aa j = L (a * p2 s) j) := Lib.hid (by rw [haa]; unfold shN p2; exact fun j hj => L_mod _ hj)
  have same : Hid (bb = b) := Lib.hid hbb
  have hw : IntKind.i64.wrap ((nb a : Int) - (nb b : Int)) = -(s : Int) := by
    rw [IntWalk.i64_in _ ⟨by omega, by omega⟩]; omega
  have hs2 : s ≤ 384 := by omega
  have hs3 : (0 : Int) ≤ s := by omega
  have g0 : ¬ (0 : Int) < -(s : Int) := by omega
  have VV := Lib.hid hV2
  clear haa hbb hs hg hV2
  go_enter Tryz.func122, Tryz.ntmps122
  go_wp2
  have S := Lib.hid (((six_new w (L a) 124).later ((Ext.refl _).alloc (.cells #[.int .u64 (L b 0), .int .u64 (L b 1), .int .u64 (L b 2), .int .u64 (L b 3), .int .u64 (L b 4), .int .u64 (L b 5)] 124))).later ((Ext.refl _).alloc (.cells #[.bool false, .int .u64 0, .int .i64 0, .bool false] 73)))
  have M := Lib.hid ((six_new (w.alloc (.cells #[.int .u64 (L a 0), .int .u64 (L a 1), .int .u64 (L a 2), .int .u64 (L a 3), .int .u64 (L a 4), .int .u64 (L a 5)] 124)) (L b) 124).later ((Ext.refl _).alloc (.cells #[.bool false, .int .u64 0, .int .i64 0, .bool false] 73)))
  have R := Lib.hid (ex4_new ((w.alloc (.cells #[.int .u64 (L a 0), .int .u64 (L a 1), .int .u64 (L a 2), .int .u64 (L a 3), .int .u64 (L a 4), .int .u64 (L a 5)] 124)).alloc (.cells #[.int .u64 (L b 0), .int .u64 (L b 1), .int .u64 (L b 2), .int .u64 (L b 3), .int .u64 (L b 4), .int .u64 (L b 5)] 124)) 73)
  have X := Lib.hid ((((Ext.refl w).alloc (.cells #[.int .u64 (L a 0), .int .u64 (L a 1), .int .u64 (L a 2), .int .u64 (L a 3), .int .u64 (L a 4), .int .u64 (L a 5)] 124)).alloc (.cells #[.int .u64 (L b 0), .int .u64 (L b 1), .int .u64 (L b 2), .int .u64 (L b 3), .int .u64 (L b 4), .int .u64 (L b 5)] 124)).alloc (.cells #[.bool false, .int .u64 0, .int .i64 0, .bool false] 73))
  simp only [World.size_alloc] at M R
  obtain ⟨u0, hu0⟩ : ∃ u : World, u = (((w.alloc (.cells #[.int .u64 (L a 0), .int .u64 (L a 1), .int .u64 (L a 2), .int .u64 (L a 3), .int .u64 (L a 4), .int .u64 (L a 5)] 124)).alloc (.cells #[.int .u64 (L b 0), .int .u64 (L b 1), .int .u64 (L b 2), .int .u64 (L b 3), .int .u64 (L b 4), .int .u64 (L b 5)] 124)).alloc (.cells #[.bool false, .int .u64 0, .int .i64 0, .bool false] 73)) := ⟨_, rfl⟩
  rw [← hu0] at S M R X ⊢
  have HU := Lib.hid hu0
  clear hu0
  have keepE : ∀ u u' : World, (fun w' : World => (w'.cell? ⟨w.heap.size, 0, none⟩ = some (.int .u64 (L a 0)) ∧ w'.cell? ⟨w.heap.size, 1, none⟩ = some (.int .u64 (L a 1)) ∧ w'.cell? ⟨w.heap.size, 2, none⟩ = some (.int .u64 (L a 2)) ∧ w'.cell? ⟨w.heap.size, 3, none⟩ = some (.int .u64 (L a 3)) ∧ w'.cell? ⟨w.heap.size, 4, none⟩ = some (.int .u64 (L a 4)) ∧ w'.cell? ⟨w.heap.size, 5, none⟩ = some (.int .u64 (L a 5)) ∧ w'.cell? ⟨(w.heap.size + 1), 0, none⟩ = some (.int .u64 (L b 0)) ∧ w'.cell? ⟨(w.heap.size + 1), 1, none⟩ = some (.int .u64 (L b 1)) ∧ w'.cell? ⟨(w.heap.size + 1), 2, none⟩ = some (.int .u64 (L b 2)) ∧ w'.cell? ⟨(w.heap.size + 1), 3, none⟩ = some (.int .u64 (L b 3)) ∧ w'.cell? ⟨(w.heap.size + 1), 4, none⟩ = some (.int .u64 (L b 4)) ∧ w'.cell? ⟨(w.heap.size + 1), 5, none⟩ = some (.int .u64 (L b 5)))) u → Ext u u' → (fun w' : World => (w'.cell? ⟨w.heap.size, 0, none⟩ = some (.int .u64 (L a 0)) ∧ w'.cell? ⟨w.heap.size, 1, none⟩ = some (.int .u64 (L a 1)) ∧ w'.cell? ⟨w.heap.size, 2, none⟩ = some (.int .u64 (L a 2)) ∧ w'.cell? ⟨w.heap.size, 3, none⟩ = some (.int .u64 (L a 3)) ∧ w'.cell? ⟨w.heap.size, 4, none⟩ = some (.int .u64 (L a 4)) ∧ w'.cell? ⟨w.heap.size, 5, none⟩ = some (.int .u64 (L a 5)) ∧ w'.cell? ⟨(w.heap.size + 1), 0, none⟩ = some (.int .u64 (L b 0)) ∧ w'.cell? ⟨(w.heap.size + 1), 1, none⟩ = some (.int .u64 (L b 1)) ∧ w'.cell? ⟨(w.heap.size + 1), 2, none⟩ = some (.int .u64 (L b 2)) ∧ w'.cell? ⟨(w.heap.size + 1), 3, none⟩ = some (.int .u64 (L b 3)) ∧ w'.cell? ⟨(w.heap.size + 1), 4, none⟩ = some (.int .u64 (L b 4)) ∧ w'.cell? ⟨(w.heap.size + 1), 5, none⟩ = some (.int .u64 (L b 5)))) u' := by
    rintro u u' ⟨g0, g1, g2, g3, g4, g5, g6, g7, g8, g9, g10, g11⟩ hx
    exact ⟨(hx.cell 0 (World.block_lt_of_cell? u _ g0)).trans g0, (hx.cell 1 (World.block_lt_of_cell? u _ g1)).trans g1, (hx.cell 2 (World.block_lt_of_cell? u _ g2)).trans g2, (hx.cell 3 (World.block_lt_of_cell? u _ g3)).trans g3, (hx.cell 4 (World.block_lt_of_cell? u _ g4)).trans g4, (hx.cell 5 (World.block_lt_of_cell? u _ g5)).trans g5, (hx.cell 0 (World.block_lt_of_cell? u _ g6)).trans g6, (hx.cell 1 (World.block_lt_of_cell? u _ g7)).trans g7, (hx.cell 2 (World.block_lt_of_cell? u _ g8)).trans g8, (hx.cell 3 (World.block_lt_of_cell? u _ g9)).trans g9, (hx.cell 4 (World.block_lt_of_cell? u _ g10)).trans g10, (hx.cell 5 (World.block_lt_of_cell? u _ g11)).trans g11⟩
  have keep0 : (fun w' : World => (w'.cell? ⟨w.heap.size, 0, none⟩ = some (.int .u64 (L a 0)) ∧ w'.cell? ⟨w.heap.size, 1, none⟩ = some (.int .u64 (L a 1)) ∧ w'.cell? ⟨w.heap.size, 2, none⟩ = some (.int .u64 (L a 2)) ∧ w'.cell? ⟨w.heap.size, 3, none⟩ = some (.int .u64 (L a 3)) ∧ w'.cell? ⟨w.heap.size, 4, none⟩ = some (.int .u64 (L a 4)) ∧ w'.cell? ⟨w.heap.size, 5, none⟩ = some (.int .u64 (L a 5)) ∧ w'.cell? ⟨(w.heap.size + 1), 0, none⟩ = some (.int .u64 (L b 0)) ∧ w'.cell? ⟨(w.heap.size + 1), 1, none⟩ = some (.int .u64 (L b 1)) ∧ w'.cell? ⟨(w.heap.size + 1), 2, none⟩ = some (.int .u64 (L b 2)) ∧ w'.cell? ⟨(w.heap.size + 1), 3, none⟩ = some (.int .u64 (L b 3)) ∧ w'.cell? ⟨(w.heap.size + 1), 4, none⟩ = some (.int .u64 (L b 4)) ∧ w'.cell? ⟨(w.heap.size + 1), 5, none⟩ = some (.int .u64 (L b 5)))) u0 := by
    obtain ⟨c0, c1, c2, c3, c4, c5⟩ := S.out.cells
    obtain ⟨d0, d1, d2, d3, d4, d5⟩ := M.out.cells
    exact ⟨c0, c1, c2, c3, c4, c5, d0, d1, d2, d3, d4, d5⟩
  have KE := Lib.hid keepE
  have K0 := Lib.hid keep0
  clear keepE keep0
  go_region_held3 (fun w' : World => (w'.cell? ⟨w.heap.size, 0, none⟩ = some (.int .u64 (L a 0)) ∧ w'.cell? ⟨w.heap.size, 1, none⟩ = some (.int .u64 (L a 1)) ∧ w'.cell? ⟨w.heap.size, 2, none⟩ = some (.int .u64 (L a 2)) ∧ w'.cell? ⟨w.heap.size, 3, none⟩ = some (.int .u64 (L a 3)) ∧ w'.cell? ⟨w.heap.size, 4, none⟩ = some (.int .u64 (L a 4)) ∧ w'.cell? ⟨w.heap.size, 5, none⟩ = some (.int .u64 (L a 5)) ∧ w'.cell? ⟨(w.heap.size + 1), 0, none⟩ = some (.int .u64 (L b 0)) ∧ w'.cell? ⟨(w.heap.size + 1), 1, none⟩ = some (.int .u64 (L b 1)) ∧ w'.cell? ⟨(w.heap.size + 1), 2, none⟩ = some (.int .u64 (L b 2)) ∧ w'.cell? ⟨(w.heap.size + 1), 3, none⟩ = some (.int .u64 (L b 3)) ∧ w'.cell? ⟨(w.heap.size + 1), 4, none⟩ = some (.int .u64 (L b 4)) ∧ w'.cell? ⟨(w.heap.size + 1), 5, none⟩ = some (.int .u64 (L b 5)))) ((refine KE.out _ _ K0.out ?_; (repeat (first | with_reducible exact Ext.refl _ | assumption | with_reducible refine Ext.drew ?_ | with_reducible refine Ext.drewN ?_ _ | refine Ext.trans ?_ (by assumption))); done)) (first | (go_at_call 144; ((with_reducible refine (length_any a HA.out _).mono ?_); rintro e v1 ⟨rfl, hx⟩)) | (go_at_call 144; ((with_reducible refine (length_any b HB.out _).mono ?_); rintro e v1 ⟨rfl, hx⟩)))
  have HX : Ext u0 v1 := ((Ext.refl u0).drew.trans (by assumption)).trans hx
  have S2 := Lib.hid (S.out.later HX)
  have M2 := Lib.hid (M.out.later HX)
  have R2 := Lib.hid (R.out.later HX)
  have X2 := Lib.hid (X.out.trans HX)
  clear S M R X
  have S := S2
  have M := M2
  have R := R2
  have X := X2
  clear S2 M2 R2 X2
  clear HX hx KE K0 HU
  obtain ⟨c0, c1, c2, c3, c4, c5⟩ := S.out.cells
  obtain ⟨d0, d1, d2, d3, d4, d5⟩ := M.out.cells
  go_wp2_with fail
  refine (shifted_any a s (by omega) _).mono ?_
  rintro e v2 ⟨rfl, hx2⟩
  clear c0 c1 c2 c3 c4 c5 d0 d1 d2 d3 d4 d5
  have S2 := Lib.hid (S.out.later hx2)
  have M2 := Lib.hid (M.out.later hx2)
  have R2 := Lib.hid (R.out.later hx2)
  have X2 := Lib.hid (X.out.trans hx2)
  clear S M R X
  have S := S2
  have M := M2
  have R := R2
  have X := X2
  clear S2 M2 R2 X2
  clear hx2
  obtain ⟨c0, c1, c2, c3, c4, c5⟩ := S.out.cells
  obtain ⟨d0, d1, d2, d3, d4, d5⟩ := M.out.cells
  have f0 := S.out.froz
  have f1 := M.out.froz
  go_wp2
  clear c0 c1 c2 c3 c4 c5 d0 d1 d2 d3 d4 d5 f0 f1
  have SA : Hid (Six _ w.heap.size (L aa)) := Lib.hid ((S.out.put (L (a * p2 s))).of_eq (fun j hj => shl.out j hj))
  have MA : Hid (Six _ (w.heap.size + 1) (L bb)) := Lib.hid ((M.out.put_other (Y := L (a * p2 s)) (b := w.heap.size) (by omega)).of_eq (fun j _ => by rw [same.out]))
  have RA : Hid (Ex4 _ (w.heap.size + 1 + 1)) := Lib.hid (R.out.put_other (Y := L (a * p2 s)) (c := w.heap.size) (by omega))
  have XA : Hid (Ext w _) := Lib.hid (X.out.put (Y := L (a * p2 s)) (b := w.heap.size) (by omega))
  clear S M R X
  go_loopw [6, 21] (fun mn i wr => ∃ k : Nat, k ≤ 32 ∧ i = .int .i64 k ∧ mn = .int .u64 ((rsteps bb k (0, aa)).1 : Nat) ∧ Six wr w.heap.size (L (rsteps bb k (0, aa)).2) ∧ Six wr (w.heap.size + 1) (L bb) ∧ Ex4 wr (w.heap.size + 1 + 1) ∧ Ext w wr) (fun _ i _ => 32 - (intOf i).toNat)
  case atStart => exact ⟨0, by omega, rfl, rfl, SA.out, MA.out, RA.out, XA.out⟩
  case round =>
    obtain ⟨k, hk, rfl, rfl, hs, hm, hr, hx⟩ := hrel
    clear SA MA RA XA
    have hx6 : Hid ((rsteps bb k (0, aa)).2 < N6) := Lib.hid (rsteps_lt laa.out 0 k)
    have hm32 := rsteps_man32 bb aa hk
    have mw1 : IntKind.u64.wrap (((rsteps bb k (0, aa)).1 : Int) * 2) = ((rsteps bb k (0, aa)).1 : Int) * 2 := IntWalk.u64_in _ ⟨by omega, by omega⟩
    have mw2 : IntKind.u64.wrap (((rsteps bb k (0, aa)).1 : Int) * 2 + 1) = ((rsteps bb k (0, aa)).1 : Int) * 2 + 1 := IntWalk.u64_in _ ⟨by omega, by omega⟩
    have S := Lib.hid hs
    have M := Lib.hid hm
    have R := Lib.hid hr
    have X := Lib.hid hx
    clear hs hm hr hx
    by_cases hlt : k < 32
    · have E1 := Lib.hid (@rsteps_ge bb aa k)
      have E2 := Lib.hid (@rsteps_lt' bb aa k)
      generalize hmx : rsteps bb k (0, aa) = mx at *
      clear hmx
      obtain ⟨m, x⟩ := mx
      simp only at S hx6 hm32 mw1 mw2 E1 E2 ⊢
      obtain ⟨c0, c1, c2, c3, c4, c5⟩ := S.out.cells
      obtain ⟨d0, d1, d2, d3, d4, d5⟩ := M.out.cells
      by_cases hge : bb ≤ x
      · have hcm : (0 : Int) ≤ cmpN x bb := by unfold cmpN; split <;> (try split) <;> omega
        have E := Lib.hid (E1.out hge)
        clear E1 E2
        obtain ⟨d, rfl⟩ : ∃ d, x = d + bb := ⟨x - bb, by omega⟩
        clear hge
        go_wp2_with fail
        refine (compare_any _ _ hx6.out lbb.out _).mono ?_
        rintro e v3 ⟨rfl, hx3⟩
        clear c0 c1 c2 c3 c4 c5 d0 d1 d2 d3 d4 d5
        have S2 := Lib.hid (S.out.later hx3)
        have M2 := Lib.hid (M.out.later hx3)
        have R2 := Lib.hid (R.out.later hx3)
        have X2 := Lib.hid (X.out.trans hx3)
        clear S M R X
        have S := S2
        have M := M2
        have R := R2
        have X := X2
        clear S2 M2 R2 X2
        clear hx3
        obtain ⟨c0, c1, c2, c3, c4, c5⟩ := S.out.cells
        obtain ⟨d0, d1, d2, d3, d4, d5⟩ := M.out.cells
        go_wp2_with fail
        refine (minus_any d bb _).mono ?_
        rintro e v4 ⟨rfl, hx4⟩
        clear c0 c1 c2 c3 c4 c5 d0 d1 d2 d3 d4 d5
        have S2 := Lib.hid (S.out.later hx4)
        have M2 := Lib.hid (M.out.later hx4)
        have R2 := Lib.hid (R.out.later hx4)
        have X2 := Lib.hid (X.out.trans hx4)
        clear S M R X
        have S := S2
        have M := M2
        have R := R2
        have X := X2
        clear S2 M2 R2 X2
        clear hx4
        have S2 := Lib.hid (S.out.put (L d))
        have M2 := Lib.hid (M.out.put_other (Y := L d) (b := w.heap.size) (by omega))
        have R2 := Lib.hid (R.out.put_other (Y := L d) (c := w.heap.size) (by omega))
        have X2 := Lib.hid (X.out.put (Y := L d) (b := w.heap.size) (Nat.le_refl _))
        obtain ⟨c0, c1, c2, c3, c4, c5⟩ := S.out.cells
        have f0 := S.out.froz
        obtain ⟨e0, e1, e2, e3, e4, e5⟩ := S2.out.cells
        clear S M R X
        go_wp2_with fail
        clear c0 c1 c2 c3 c4 c5 f0 e0 e1 e2 e3 e4 e5
        refine (plus_any d d _).mono ?_
        rintro e v5 ⟨rfl, hx5⟩
        have S := Lib.hid (S2.out.later hx5)
        have M := Lib.hid (M2.out.later hx5)
        have R := Lib.hid (R2.out.later hx5)
        have X := Lib.hid (X2.out.trans hx5)
        clear S2 M2 R2 X2 hx5
        obtain ⟨c0, c1, c2, c3, c4, c5⟩ := S.out.cells
        have f0 := S.out.froz
        go_wp2
        go_roundw
        case rel => exact ⟨k + 1, by omega, by go_num, by rw [E.out]; go_num, by rw [E.out]; exact (S.out.put (L (d + d))).of_eq (fun j hj => by rw [L_mod _ hj, Nat.add_sub_cancel]), M.out.put_other (by omega), R.out.put_other (by omega), X.out.put (Nat.le_refl _)⟩
        case measure => simp [intOf]; omega
      · have hcm : ¬ (0 : Int) ≤ cmpN x bb := by unfold cmpN; rw [if_pos (by omega)]; omega
        have E := Lib.hid (E2.out hge)
        clear E1 E2 hge
        go_wp2_with fail
        refine (compare_any _ _ hx6.out lbb.out _).mono ?_
        rintro e v3 ⟨rfl, hx3⟩
        clear c0 c1 c2 c3 c4 c5 d0 d1 d2 d3 d4 d5
        have S2 := Lib.hid (S.out.later hx3)
        have M2 := Lib.hid (M.out.later hx3)
        have R2 := Lib.hid (R.out.later hx3)
        have X2 := Lib.hid (X.out.trans hx3)
        clear S M R X
        have S := S2
        have M := M2
        have R := R2
        have X := X2
        clear S2 M2 R2 X2
        clear hx3
        obtain ⟨c0, c1, c2, c3, c4, c5⟩ := S.out.cells
        go_wp2_with fail
        refine (plus_any x x _).mono ?_
        rintro e v5 ⟨rfl, hx5⟩
        clear c0 c1 c2 c3 c4 c5
        have S2 := Lib.hid (S.out.later hx5)
        have M2 := Lib.hid (M.out.later hx5)
        have R2 := Lib.hid (R.out.later hx5)
        have X2 := Lib.hid (X.out.trans hx5)
        clear S M R X
        have S := S2
        have M := M2
        have R := R2
        have X := X2
        clear S2 M2 R2 X2
        clear hx5
        obtain ⟨c0, c1, c2, c3, c4, c5⟩ := S.out.cells
        have f0 := S.out.froz
        go_wp2
        go_roundw
        case rel => exact ⟨k + 1, by omega, by go_num, by rw [E.out]; go_num, by rw [E.out]; exact (S.out.put (L (x + x))).of_eq (fun j hj => L_mod _ hj), M.out.put_other (by omega), R.out.put_other (by omega), X.out.put (Nat.le_refl _)⟩
        case measure => simp [intOf]; omega
    · obtain rfl : k = 32 := by omega
      have v1 := HV1.out
      have v3 := HV3.out
      have v2 := VV.out
      generalize hmx : rsteps bb 32 (0, aa) = mx at *
      clear hmx HV1 HV3 VV
      obtain ⟨m, x⟩ := mx
      simp only at S hx6 hm32 mw1 mw2 v1 v3 ⊢
      subst v1 v2
      have r0 := R.out.c0
      have r1 := R.out.c1
      have r2 := R.out.c2
      have r3 := R.out.c3
      have rf := R.out.froz
      by_cases hx0 : x = 0
      · subst hx0
        obtain rfl : V3 = false := by rw [v3]; simp
        clear v3
        have S0 : Six wr w.heap.size (fun _ => 0) := S.out.of_eq (fun j _ => (limb_zero _ _).symm)
        obtain ⟨c0, c1, c2, c3, c4, c5⟩ := S0.cells
        clear S0
        have EQ := eqNat 0 0 0 0 0 0 0 0 0 0 0 0
        simp only [beq_self_eq_true, Bool.and_self] at EQ
        go_wp2
        refine bodyPost_ret (v := .agg #[.bool false, .int .u64 V1, .int .i64 (-(s : Int) - 31), .bool false]) ?_ rfl ⟨rfl, ?_⟩
        · simp [results, Tryz.results122, go_sem, r0, r1, r2, r3]
        · repeat (first | with_reducible exact X.out | with_reducible refine Ext.setCell ?_ (by first | (simp; done) | (simp; omega)) _)
      · obtain rfl : V3 = true := by rw [v3]; simp [hx0]
        clear v3
        obtain ⟨c0, c1, c2, c3, c4, c5⟩ := S.out.cells
        have hne : ¬ (L x 0 = 0 ∧ L x 1 = 0 ∧ L x 2 = 0 ∧ L x 3 = 0 ∧ L x 4 = 0 ∧ L x 5 = 0) := fun ⟨h0, h1, h2, h3, h4, h5⟩ => hx0 (zero_of_places hx6.out (fun j hj => by
          have : j = 0 ∨ j = 1 ∨ j = 2 ∨ j = 3 ∨ j = 4 ∨ j = 5 := by omega
          rcases this with rfl | rfl | rfl | rfl | rfl | rfl <;> assumption))
        have hbl : ((L x 0 : Int) == 0 && ((L x 1 : Int) == 0 && ((L x 2 : Int) == 0 && ((L x 3 : Int) == 0 && ((L x 4 : Int) == 0 && (L x 5 : Int) == 0))))) = false := by
          rw [← Bool.not_eq_true]; intro h
          simp only [Bool.and_eq_true, beq_iff_eq] at h
          exact hne (by omega)
        have EQ : ∀ w : World, (Op.equalIn 10000 124 (.agg #[.int .u64 (L x 0), .int .u64 (L x 1), .int .u64 (L x 2), .int .u64 (L x 3), .int .u64 (L x 4), .int .u64 (L x 5)]) (.agg #[.int .u64 0, .int .u64 0, .int .u64 0, .int .u64 0, .int .u64 0, .int .u64 0])).run Tryz.prog w = .ok false w := fun w => by rw [eqNat, hbl]
        clear hne hbl
        go_wp2
        refine bodyPost_ret (v := .agg #[.bool false, .int .u64 V1, .int .i64 (-(s : Int) - 31), .bool true]) ?_ rfl ⟨rfl, ?_⟩
        · simp [results, Tryz.results122, go_sem, r0, r1, r2, r3]
        · repeat (first | with_reducible exact X.out | with_reducible refine Ext.setCell ?_ (by first | (simp; done) | (simp; omega)) _)

theorem ratio_any (a b : Nat) (ha : a < N6) (hb : b < N6) (w : World) :
    Calls Tryz.prog 122 #[.agg #[.int .u64 (L a 0), .int .u64 (L a 1), .int .u64 (L a 2), .int .u64 (L a 3), .int .u64 (L a 4), .int .u64 (L a 5)], .agg #[.int .u64 (L b 0), .int .u64 (L b 1), .int .u64 (L b 2), .int .u64 (L b 3), .int .u64 (L b 4), .int .u64 (L b 5)]] w fun e w' => e = .returned (.agg #[.bool false, .int .u64 ((ratioS a b).1 : Nat), .int .i64 (ratioE a b - 31), .bool (decide ((ratioS a b).2 ≠ 0))]) ∧ Ext w w' := by
  have na := nb_le384 ha
  have nb' := nb_le384 hb
  by_cases h : nb b < nb a
  · have e : ratioS a b = rsteps (shN b (nb a - nb b)) 32 (0, a) := by
      unfold ratioS ratioE; simp only; rw [if_pos (by omega), show ((nb a : Int) - (nb b : Int)).toNat = nb a - nb b by omega]
    rw [e]
    exact ratio_pos a b a _ _ _ _ _ rfl rfl rfl rfl (by unfold ratioE; omega) rfl ha hb h w
  · have e : ratioS a b = rsteps b 32 (0, shN a (nb b - nb a)) := by
      unfold ratioS ratioE; simp only; rw [if_neg (by omega), show (-((nb a : Int) - (nb b : Int))).toNat = nb b - nb a by omega]
    rw [e]
    exact ratio_neg a b _ b _ _ _ _ rfl rfl rfl rfl (by unfold ratioE; omega) rfl ha hb (by omega) w
theorem ratioS_man (a b : Nat) : (ratioS a b).1 < 4294967296 := by
  unfold ratioS; simp only; split <;> exact rsteps_man32 _ _ (Nat.le_refl _)
end Go.Proofs.YtoeahfddnjbhbaaGreatDoor
