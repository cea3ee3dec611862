/- Layer 2: the iterator digits: what it yields, one after the other. -/
import Derived.Test.YtoeahfddnjbhbaaGreatDoorRe
import Derived.RangeFuncNested
import Derived.RangeFuncBound
import Derived.RangeFuncCalls
import Derived.RangeFuncLeaves
import Derived.Shelf.Abstract
import Derived.Shelf.RegionOpen
import Derived.OwnWalkIn
import Derived.TacticsInMore
import Derived.LoopNIn
import Derived.LoopIn
namespace Go.Proofs.YtoeahfddnjbhbaaGreatDoor
open Go.RowKit Go.Shelf
attribute [local go_sem] Oper.semAt_some

theorem grown_trans {a b c : World} {r : Option Nat} (h : a.grownBy b r) (k : b.grownBy c r) : a.grownBy c r :=
  ⟨k.os.trans h.os, k.tape.trans h.tape, k.output.trans h.output, Nat.le_trans h.size k.size, fun i hi hr => (k.block i (Nat.lt_of_lt_of_le hi h.size) hr).trans (h.block i hi hr)⟩
theorem grown_refl (a : World) (r : Option Nat) : a.grownBy a r := ⟨rfl, rfl, rfl, Nat.le_refl _, fun _ _ _ => rfl⟩
theorem grown_ext {a b : World} {r : Option Nat} (h : Ext a b) : a.grownBy b r := ⟨h.bel.os, h.bel.tape, h.bel.output, h.bel.size, fun k hk _ => h.bel.block k hk⟩
theorem grown_set {a b : World} {B o : Nat} {v : Value} (h : a.grownBy b (some B)) : a.grownBy (b.setCell ⟨B, o, none⟩ v) (some B) :=
  grown_trans h ⟨rfl, rfl, rfl, by show b.heap.size ≤ (b.heap.modify _ _).size; rw [Array.size_modify]; exact Nat.le_refl _, fun k _ hr => Below.heap_setCell b ⟨B, o, none⟩ v k (fun e => hr (by rw [e]))⟩
theorem Six.grown {a b : World} {B c : Nat} {X : Nat → Nat} (h : Six a c X) (hg : a.grownBy b (some B)) (hn : c ≠ B) : Six b c X where
  cell := fun j hj => by rw [← h.cell j hj]; exact World.cell?_of_block (hg.block c h.lt (fun e => hn (by cases e; rfl)))
  froz := fun j => by rw [← h.froz j]; exact World.frozen?_of_block (hg.block c h.lt (fun e => hn (by cases e; rfl)))

theorem rounds_more {F : Fence} {n : Nat} {P : Program} {Q : Exit → Act → World → Prop} {c : Code} : ∀ {i j : Nat} {a : Act} {w : World}, i ≤ j → Code.roundsIn F n P c Q i a w → Code.roundsIn F n P c Q j a w
  | 0, _, _, _, _, h => h.elim
  | i + 1, 0, _, _, hij, _ => by omega
  | i + 1, j + 1, a, w, hij, h => by
    rw [roundsIn_succ] at h ⊢
    refine Code.wpIn_mono ?_ h
    intro e a' w' hq
    cases e with
    | normal => exact rounds_more (show i ≤ j by omega) hq
    | _ => exact hq
/-- A loop with a number of rounds of one's own. -/
theorem wpIn_loop_fuel {F : Fence} {n : Nat} {P : Program} {Q : Exit → Act → World → Prop} {c : Code} (I : Nat → Act → World → Prop)
    (round : ∀ k a w, I k a w → c.wpIn F n P (Exit.then (fun a' w' => ∃ j, j < k ∧ I j a' w') Q) a w) : ∀ (k : Nat) (a : Act) (w : World), I k a w → (Code.loop c).wpIn F n P Q a w := by
  have key : ∀ k a w, I k a w → Code.roundsIn F n P c Q (k + 1) a w := by
    intro k
    induction k using Nat.strongRecOn with
    | _ k ih =>
      intro a w h
      rw [roundsIn_succ]
      refine Code.wpIn_mono ?_ (round k a w h)
      intro e a' w' hq
      cases e with
      | normal =>
        obtain ⟨j, hj, hI⟩ := hq
        have := ih j hj a' w' hI
        exact rounds_more (by omega) this
      | _ => exact hq
  exact fun k a w h => wpIn_loop_rounds (k + 1) (key k a w h)

set_option maxRecDepth 100000 in
set_option maxHeartbeats 4000000 in
theorem digits_in (Bn Bs sz l : Nat) (hne : Bs ≠ Bn) (h0 : 0 < sz) (hsz : sz < N6) (J Y : Nat → Nat → World → Prop) (Jx : World → Prop)
    (hJ : ∀ k n W, J k n W → n < sz ∧ Six W Bn (L n) ∧ Six W Bs (L sz))
    (hJY : ∀ k n W W1, J k n W → W.grownBy W1 (some Bn) → Six W1 Bn (L (n * 10 % M384 % sz)) → Y k n W1)
    (hY : ∀ k n W1, n < sz → Y k n W1 → YieldAt Fence.wide 2 Tryz.prog l #[.int .i64 ((n * 10 % M384 / sz : Nat) : Int), .agg #[.int .u64 (L (n * 10 % M384 % sz) 0), .int .u64 (L (n * 10 % M384 % sz) 1), .int .u64 (L (n * 10 % M384 % sz) 2), .int .u64 (L (n * 10 % M384 % sz) 3), .int .u64 (L (n * 10 % M384 % sz) 4), .int .u64 (L (n * 10 % M384 % sz) 5)]] W1 fun e W' =>
      (e = .returned (.bool true) ∧ ∃ j, j < k ∧ J j (n * 10 % M384 % sz) W') ∨ (e = .returned (.bool false) ∧ Jx W'))
    (k0 n0 : Nat) (W : World) (hst : J k0 n0 W) :
    CallsIn Fence.wide 3 Tryz.prog 155 #[.func (.yield l) #[] #[], .pointer (some ⟨Bn, 0, none⟩), .pointer (some ⟨Bs, 0, none⟩)] W fun e W' => (∃ v, e = .returned v) ∧ Jx W' := by
  have H1 := Lib.hid hJ
  have H2 := Lib.hid hJY
  have H3 := Lib.hid hY
  have H4 := Lib.hid hst
  clear hJ hJY hY hst
  refine callsIn_of_wp Tryz.func155 rfl trivial ?_ rfl
  simp only [Tryz.ntmps155, List.size_toArray, List.length_cons, List.length_nil, Nat.reduceAdd, Nat.reduceSub, Array.replicate_succ, Array.replicate_zero, List.push_toArray, List.append_toArray, List.nil_append, List.cons_append]
  gi_wp2
  refine wpIn_loop_fuel (fun k a u => ∃ (n : Nat) (x3 x4 x5 x6 x7 x8 x9 x10 x11 x12 x13 x14 x15 x16 x17 x18 x19 x20 : Value), a = { tmps := #[.func (.yield l) #[] #[], .pointer (some ⟨Bn, 0, none⟩), .pointer (some ⟨Bs, 0, none⟩), x3, x4, x5, x6, x7, x8, x9, x10, x11, x12, x13, x14, x15, x16, x17, x18, x19, x20], defers := [] } ∧ Hid (J k n u)) ?round k0 _ _ ⟨n0, undef, undef, undef, undef, undef, undef, undef, undef, undef, undef, undef, undef, undef, undef, undef, undef, undef, undef, rfl, H4⟩
  rintro k a u ⟨n, x3, x4, x5, x6, x7, x8, x9, x10, x11, x12, x13, x14, x15, x16, x17, x18, x19, x20, rfl, HJ⟩
  obtain ⟨hn, sn, ss⟩ := H1.out _ _ _ HJ.out
  obtain ⟨c0, c1, c2, c3, c4, c5⟩ := sn.cells
  have S0 := Lib.hid sn
  have T0 := Lib.hid ss
  clear sn ss
  gi_wp2_with (fail)
  refine ⟨trivial, (callsIn_wide.2 (times10m n _)).mono ?_⟩
  rintro e u1 ⟨rfl, hx1⟩
  clear c0 c1 c2 c3 c4 c5
  have S1 := Lib.hid (S0.out.later hx1)
  have T1 := Lib.hid (T0.out.later hx1)
  have G1 := Lib.hid (grown_ext (r := some Bn) hx1)
  clear hx1 S0 T0
  obtain ⟨c0, c1, c2, c3, c4, c5⟩ := S1.out.cells
  have f0 := S1.out.froz
  gi_wp2_with (fail)
  clear c0 c1 c2 c3 c4 c5 f0
  have HS2 : Six ((((((u1.setCell ⟨Bn, 0, none⟩ (.int .u64 (L (n * 10 % M384) 0))).setCell ⟨Bn, 1, none⟩ (.int .u64 (L (n * 10 % M384) 1))).setCell ⟨Bn, 2, none⟩ (.int .u64 (L (n * 10 % M384) 2))).setCell ⟨Bn, 3, none⟩ (.int .u64 (L (n * 10 % M384) 3))).setCell ⟨Bn, 4, none⟩ (.int .u64 (L (n * 10 % M384) 4))).setCell ⟨Bn, 5, none⟩ (.int .u64 (L (n * 10 % M384) 5))) Bn (L (n * 10 % M384)) := S1.out.put (L (n * 10 % M384))
  have HT2 : Six ((((((u1.setCell ⟨Bn, 0, none⟩ (.int .u64 (L (n * 10 % M384) 0))).setCell ⟨Bn, 1, none⟩ (.int .u64 (L (n * 10 % M384) 1))).setCell ⟨Bn, 2, none⟩ (.int .u64 (L (n * 10 % M384) 2))).setCell ⟨Bn, 3, none⟩ (.int .u64 (L (n * 10 % M384) 3))).setCell ⟨Bn, 4, none⟩ (.int .u64 (L (n * 10 % M384) 4))).setCell ⟨Bn, 5, none⟩ (.int .u64 (L (n * 10 % M384) 5))) Bs (L sz) := T1.out.put_other hne
  have HG2 : u.grownBy ((((((u1.setCell ⟨Bn, 0, none⟩ (.int .u64 (L (n * 10 % M384) 0))).setCell ⟨Bn, 1, none⟩ (.int .u64 (L (n * 10 % M384) 1))).setCell ⟨Bn, 2, none⟩ (.int .u64 (L (n * 10 % M384) 2))).setCell ⟨Bn, 3, none⟩ (.int .u64 (L (n * 10 % M384) 3))).setCell ⟨Bn, 4, none⟩ (.int .u64 (L (n * 10 % M384) 4))).setCell ⟨Bn, 5, none⟩ (.int .u64 (L (n * 10 % M384) 5))) (some Bn) := grown_set (grown_set (grown_set (grown_set (grown_set (grown_set G1.out)))))
  generalize ((((((u1.setCell ⟨Bn, 0, none⟩ (.int .u64 (L (n * 10 % M384) 0))).setCell ⟨Bn, 1, none⟩ (.int .u64 (L (n * 10 % M384) 1))).setCell ⟨Bn, 2, none⟩ (.int .u64 (L (n * 10 % M384) 2))).setCell ⟨Bn, 3, none⟩ (.int .u64 (L (n * 10 % M384) 3))).setCell ⟨Bn, 4, none⟩ (.int .u64 (L (n * 10 % M384) 4))).setCell ⟨Bn, 5, none⟩ (.int .u64 (L (n * 10 % M384) 5))) = u2 at HS2 HT2 HG2 ⊢
  have S2 := Lib.hid HS2
  have T2 := Lib.hid HT2
  have G2 := Lib.hid HG2
  clear HS2 HT2 HG2 S1 T1 G1
  have hqr := Nat.div_add_mod (n * 10 % M384) sz
  have hrl := Nat.mod_lt (n * 10 % M384) h0
  have hq9 : n * 10 % M384 / sz ≤ 9 := by
    have h1 : n * 10 % M384 ≤ n * 10 := Nat.mod_le _ _
    have h2 : n * 10 % M384 / sz < 10 := Nat.div_lt_of_lt_mul (by omega)
    omega
  have hn6 : n * 10 % M384 < N6 := mod_N6 _
  generalize hN : n * 10 % M384 = N at *
  generalize hq : N / sz = q at *
  generalize hr : N % sz = r at *
  have QR := Lib.hid hqr
  have N6' := Lib.hid hn6
  have RL := Lib.hid hrl
  clear hqr hn6 hrl
  gi_loopw [4] (fun d wr => ∃ i : Nat, d = .int .i64 i ∧ i ≤ q ∧ Six wr Bn (L (sz * (q - i) + r)) ∧ Six wr Bs (L sz) ∧ u.grownBy wr (some Bn)) (fun d _ => q - (intOf d).toNat)
  case atStart => exact ⟨0, rfl, by omega, by rw [Nat.sub_zero, QR.out]; exact S2.out, T2.out, G2.out⟩
  case round =>
    obtain ⟨i, rfl, hi, hs, ht, hg⟩ := hrel
    clear S2 T2 G2
    have hle : sz * (q - i) + r < N6 := Nat.lt_of_le_of_lt (by rw [← QR.out]; exact Nat.add_le_add_right (Nat.mul_le_mul_left _ (by omega)) _) N6'.out
    have HL := Lib.hid hle
    clear hle
    by_cases hlt : i < q
    · have e1 : sz * (q - i) + r = sz * (q - (i + 1)) + r + sz := by
        rw [show q - i = q - (i + 1) + 1 by omega, Nat.mul_succ]; omega
      rw [e1] at hs HL
      generalize hd : sz * (q - (i + 1)) + r = d at hs HL
      have HD := Lib.hid hd
      clear e1 hd
      have hcm : (0 : Int) ≤ cmpN (d + sz) sz := by unfold cmpN; rw [if_neg (by omega)]; split <;> omega
      have ew : IntKind.i64.wrap ((i : Int) + 1) = (i : Int) + 1 := IntWalk.i64_in _ ⟨by omega, by omega⟩
      have S := Lib.hid hs
      have TT := Lib.hid ht
      have G := Lib.hid hg
      clear hs ht hg
      obtain ⟨c0, c1, c2, c3, c4, c5⟩ := S.out.cells
      obtain ⟨d0, d1, d2, d3, d4, d5⟩ := TT.out.cells
      gi_wp2_with (fail)
      refine ⟨trivial, (callsIn_wide.2 (compare_any (d + sz) sz HL.out hsz _)).mono ?_⟩
      rintro e u3 ⟨rfl, hx3⟩
      clear c0 c1 c2 c3 c4 c5 d0 d1 d2 d3 d4 d5
      have S3 := Lib.hid (S.out.later hx3)
      have T3 := Lib.hid (TT.out.later hx3)
      have G3 := Lib.hid (grown_trans G.out (grown_ext hx3))
      clear hx3 S TT G
      obtain ⟨c0, c1, c2, c3, c4, c5⟩ := S3.out.cells
      obtain ⟨d0, d1, d2, d3, d4, d5⟩ := T3.out.cells
      gi_wp2_with (fail)
      refine ⟨trivial, (callsIn_wide.2 (minus_any d sz _)).mono ?_⟩
      rintro e u4 ⟨rfl, hx4⟩
      clear c0 c1 c2 c3 c4 c5 d0 d1 d2 d3 d4 d5
      have S4 := Lib.hid (S3.out.later hx4)
      have T4 := Lib.hid (T3.out.later hx4)
      have G4 := Lib.hid (grown_trans G3.out (grown_ext hx4))
      clear hx4 S3 T3 G3
      obtain ⟨c0, c1, c2, c3, c4, c5⟩ := S4.out.cells
      have f0 := S4.out.froz
      gi_wp2_with (fail)
      clear c0 c1 c2 c3 c4 c5 f0
      go_roundw
      case rel => exact ⟨i + 1, by go_num, by omega, by rw [HD.out]; exact S4.out.put (L d), T4.out.put_other hne, grown_set (grown_set (grown_set (grown_set (grown_set (grown_set G4.out)))))⟩
      case measure => simp [intOf]; omega
    · obtain rfl : i = q := by omega
      rw [Nat.sub_self, Nat.mul_zero, Nat.zero_add] at hs HL
      have hcm : ¬ (0 : Int) ≤ cmpN r sz := by have := RL.out; unfold cmpN; rw [if_pos this]; omega
      have HY := Lib.hid (H2.out k n u)
      have S := Lib.hid hs
      have TT := Lib.hid ht
      have G := Lib.hid hg
      clear hs ht hg
      obtain ⟨c0, c1, c2, c3, c4, c5⟩ := S.out.cells
      obtain ⟨d0, d1, d2, d3, d4, d5⟩ := TT.out.cells
      gi_wp2_with (fail)
      refine ⟨trivial, (callsIn_wide.2 (compare_any r sz HL.out hsz _)).mono ?_⟩
      rintro e u3 ⟨rfl, hx3⟩
      clear c0 c1 c2 c3 c4 c5 d0 d1 d2 d3 d4 d5
      have S3 := Lib.hid (S.out.later hx3)
      have G3 := Lib.hid (grown_trans G.out (grown_ext hx3))
      clear hx3 S TT G
      obtain ⟨c0, c1, c2, c3, c4, c5⟩ := S3.out.cells
      obtain ⟨fn, tmps, assign, body, hy, hR⟩ := H3.out k n u3 hn (H2.out k n u u3 HJ.out G3.out (by rw [hN, hr]; exact S3.out))
      rw [hN, hr] at hR
      rw [hN, hr, hq] at hy
      have RR := Lib.hid hR
      clear hR HY
      try dsimp only at hy
      gi_wp2
      refine RR.out.mono ?_
      clear hy
      rintro e W1 (⟨rfl, j, hj, hJ1⟩ | ⟨rfl, hx1⟩)
      · have JJ := Lib.hid hJ1
        clear hJ1
        gi_wp2
        exact ⟨j, hj, r, _, _, _, _, _, _, _, _, _, _, _, _, _, _, _, _, _, _, rfl, JJ⟩
      · have XX := Lib.hid hx1
        clear hx1
        gi_wp2
        exact bodyPost_ret (v := .tuple #[]) (by simp [results, Tryz.results155, go_sem]) rfl ⟨⟨_, rfl⟩, XX.out⟩
end Go.Proofs.YtoeahfddnjbhbaaGreatDoor
