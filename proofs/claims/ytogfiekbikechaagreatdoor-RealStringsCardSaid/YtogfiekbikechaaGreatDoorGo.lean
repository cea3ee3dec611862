/- Layer 2: the iterator digits: what it yields, one after the other. -/
/- A region within a round of a range over a function, by the laws of Rt (no program here). -/
/- Layer 2: what the walk of shortest carries (no program here). -/
/- Layer 2: shortest's texts as plain functions; what a round of its loop carries (no program here). -/
/- Layer 2: a range over the iterator digits. -/
import Derived.Test.YtogfiekbikechaaGreatDoorGn
import Derived.RangeFuncNested
import Derived.RangeFuncBound
import Derived.RangeFuncCalls
import Derived.RangeFuncLeaves
import Derived.Shelf.Abstract
import Derived.Shelf.RegionOpen
import Derived.OwnWalkIn
import Derived.TacticsInMore
import Derived.LoopNIn
import Derived.LoopIn
import Derived.Test.YtogfiekbikechaaGreatDoorGm
import Derived.OrdersIn
import Derived.TacticsIn
import Derived.RangeFuncOwn
namespace Go.Proofs.YtogfiekbikechaaGreatDoor
open Go.RowKit Go.Shelf
attribute [local go_sem] Oper.semAt_some

theorem grown_trans {a b c : World} {r : Option Nat} (h : a.grownBy b r) (k : b.grownBy c r) : a.grownBy c r :=
  ⟨k.os.trans h.os, k.tape.trans h.tape, k.output.trans h.output, Nat.le_trans h.size k.size, fun i hi hr => (k.block i (Nat.lt_of_lt_of_le hi h.size) hr).trans (h.block i hi hr)⟩
theorem grown_refl (a : World) (r : Option Nat) : a.grownBy a r := ⟨rfl, rfl, rfl, Nat.le_refl _, fun _ _ _ => rfl⟩
theorem grown_ext {a b : World} {r : Option Nat} (h : Ext a b) : a.grownBy b r := ⟨h.bel.os, h.bel.tape, h.bel.output, h.bel.size, fun k hk _ => h.bel.block k hk⟩
theorem grown_set {a b : World} {B o : Nat} {v : Value} (h : a.grownBy b (some B)) : a.grownBy (b.setCell ⟨B, o, none⟩ v) (some B) :=
  grown_trans h ⟨rfl, rfl, rfl, by show b.heap.size ≤ (b.heap.modify _ _).size; rw [Array.size_modify]; exact Nat.le_refl _, fun k _ hr => Below.heap_setCell b ⟨B, o, none⟩ v k (fun e => hr (by rw [e]))⟩
theorem Six.grown {a b : World} {B c : Nat} {X : Nat → Nat} (h : Six a c X) (hg : a.grownBy b (some B)) (hn : c ≠ B) : Six b c X where
  cell := fun j hj => by rw [← h.cell j hj]; exact World.cell?_of_block (hg.block c h.lt (fun e => hn (by cases e; rfl)))
  froz := fun j => by rw [← h.froz j]; exact World.frozen?_of_block (hg.block c h.lt (fun e => hn (by cases e; rfl)))

theorem rounds_more {F : Fence} {n : Nat} {P : Program} {Q : Exit → Act → World → Prop} {c : Code} : ∀ {i j : Nat} {a : Act} {w : World}, i ≤ j → Code.roundsIn F n P c Q i a w → Code.roundsIn F n P c Q j a w
  | 0, _, _, _, _, h => h.elim
  | i + 1, 0, _, _, hij, _ => by omega
  | i + 1, j + 1, a, w, hij, h => by
    rw [roundsIn_succ] at h ⊢
    refine Code.wpIn_mono ?_ h
    intro e a' w' hq
    cases e with
    | normal => exact rounds_more (show i ≤ j by omega) hq
    | _ => exact hq
/-- A loop with a number of rounds of one's own. -/
theorem wpIn_loop_fuel {F : Fence} {n : Nat} {P : Program} {Q : Exit → Act → World → Prop} {c : Code} (I : Nat → Act → World → Prop)
    (round : ∀ k a w, I k a w → c.wpIn F n P (Exit.then (fun a' w' => ∃ j, j < k ∧ I j a' w') Q) a w) : ∀ (k : Nat) (a : Act) (w : World), I k a w → (Code.loop c).wpIn F n P Q a w := by
  have key : ∀ k a w, I k a w → Code.roundsIn F n P c Q (k + 1) a w := by
    intro k
    induction k using Nat.strongRecOn with
    | _ k ih =>
      intro a w h
      rw [roundsIn_succ]
      refine Code.wpIn_mono ?_ (round k a w h)
      intro e a' w' hq
      cases e with
      | normal =>
        obtain ⟨j, hj, hI⟩ := hq
        have := ih j hj a' w' hI
        exact rounds_more (by omega) this
      | _ => exact hq
  exact fun k a w h => wpIn_loop_rounds (k + 1) (key k a w h)

set_option maxRecDepth 100000 in
set_option maxHeartbeats 4000000 in
theorem digits_in (Bn Bs sz l : Nat) (hne : Bs ≠ Bn) (h0 : 0 < sz) (hsz : sz < N6) (J Y : Nat → Nat → World → Prop) (Jx : World → Prop)
    (hJ : ∀ k n W, J k n W → n < sz ∧ Six W Bn (L n) ∧ Six W Bs (L sz))
    (hJY : ∀ k n W W1, J k n W → W.grownBy W1 (some Bn) → Six W1 Bn (L (n * 10 % M384 % sz)) → Y k n W1)
    (hY : ∀ k n W1, n < sz → Y k n W1 → YieldAt Fence.wide 2 Tryz.prog l #[.int .i64 ((n * 10 % M384 / sz : Nat) : Int), .agg #[.int .u64 (L (n * 10 % M384 % sz) 0), .int .u64 (L (n * 10 % M384 % sz) 1), .int .u64 (L (n * 10 % M384 % sz) 2), .int .u64 (L (n * 10 % M384 % sz) 3), .int .u64 (L (n * 10 % M384 % sz) 4), .int .u64 (L (n * 10 % M384 % sz) 5)]] W1 fun e W' =>
      (e = .returned (.bool true) ∧ ∃ j, j < k ∧ J j (n * 10 % M384 % sz) W') ∨ (e = .returned (.bool false) ∧ Jx W'))
    (k0 n0 : Nat) (W : World) (hst : J k0 n0 W) :
    CallsIn Fence.wide 3 Tryz.prog 143 #[.func (.yield l) #[] #[], .pointer (some ⟨Bn, 0, none⟩), .pointer (some ⟨Bs, 0, none⟩)] W fun e W' => (∃ v, e = .returned v) ∧ Jx W' := by
  have H1 := Lib.hid hJ
  have H2 := Lib.hid hJY
  have H3 := Lib.hid hY
  have H4 := Lib.hid hst
  clear hJ hJY hY hst
  refine callsIn_of_wp Tryz.func143 rfl trivial ?_ rfl
  simp only [Tryz.ntmps143, List.size_toArray, List.length_cons, List.length_nil, Nat.reduceAdd, Nat.reduceSub, Array.replicate_succ, Array.replicate_zero, List.push_toArray, List.append_toArray, List.nil_append, List.cons_append]
  gi_wp2
  refine wpIn_loop_fuel (fun k a u => ∃ (n : Nat) (x3 x4 x5 x6 x7 x8 x9 x10 x11 x12 x13 x14 x15 x16 x17 x18 x19 x20 : Value), a = { tmps := #[.func (.yield l) #[] #[], .pointer (some ⟨Bn, 0, none⟩), .pointer (some ⟨Bs, 0, none⟩), x3, x4, x5, x6, x7, x8, x9, x10, x11, x12, x13, x14, x15, x16, x17, x18, x19, x20], defers := [] } ∧ Hid (J k n u)) ?round k0 _ _ ⟨n0, undef, undef, undef, undef, undef, undef, undef, undef, undef, undef, undef, undef, undef, undef, undef, undef, undef, undef, rfl, H4⟩
  rintro k a u ⟨n, x3, x4, x5, x6, x7, x8, x9, x10, x11, x12, x13, x14, x15, x16, x17, x18, x19, x20, rfl, HJ⟩
  obtain ⟨hn, sn, ss⟩ := H1.out _ _ _ HJ.out
  obtain ⟨c0, c1, c2, c3, c4, c5⟩ := sn.cells
  have S0 := Lib.hid sn
  have T0 := Lib.hid ss
  clear sn ss
  gi_wp2_with (fail)
  refine ⟨trivial, (callsIn_wide.2 (times10m n _)).mono ?_⟩
  rintro e u1 ⟨rfl, hx1⟩
  clear c0 c1 c2 c3 c4 c5
  have S1 := Lib.hid (S0.out.later hx1)
  have T1 := Lib.hid (T0.out.later hx1)
  have G1 := Lib.hid (grown_ext (r := some Bn) hx1)
  clear hx1 S0 T0
  obtain ⟨c0, c1, c2, c3, c4, c5⟩ := S1.out.cells
  have f0 := S1.out.froz
  gi_wp2_with (fail)
  clear c0 c1 c2 c3 c4 c5 f0
  have HS2 : Six ((((((u1.setCell ⟨Bn, 0, none⟩ (.int .u64 (L (n * 10 % M384) 0))).setCell ⟨Bn, 1, none⟩ (.int .u64 (L (n * 10 % M384) 1))).setCell ⟨Bn, 2, none⟩ (.int .u64 (L (n * 10 % M384) 2))).setCell ⟨Bn, 3, none⟩ (.int .u64 (L (n * 10 % M384) 3))).setCell ⟨Bn, 4, none⟩ (.int .u64 (L (n * 10 % M384) 4))).setCell ⟨Bn, 5, none⟩ (.int .u64 (L (n * 10 % M384) 5))) Bn (L (n * 10 % M384)) := S1.out.put (L (n * 10 % M384))
  have HT2 : Six ((((((u1.setCell ⟨Bn, 0, none⟩ (.int .u64 (L (n * 10 % M384) 0))).setCell ⟨Bn, 1, none⟩ (.int .u64 (L (n * 10 % M384) 1))).setCell ⟨Bn, 2, none⟩ (.int .u64 (L (n * 10 % M384) 2))).setCell ⟨Bn, 3, none⟩ (.int .u64 (L (n * 10 % M384) 3))).setCell ⟨Bn, 4, none⟩ (.int .u64 (L (n * 10 % M384) 4))).setCell ⟨Bn, 5, none⟩ (.int .u64 (L (n * 10 % M384) 5))) Bs (L sz) := T1.out.put_other hne
  have HG2 : u.grownBy ((((((u1.setCell ⟨Bn, 0, none⟩ (.int .u64 (L (n * 10 % M384) 0))).setCell ⟨Bn, 1, none⟩ (.int .u64 (L (n * 10 % M384) 1))).setCell ⟨Bn, 2, none⟩ (.int .u64 (L (n * 10 % M384) 2))).setCell ⟨Bn, 3, none⟩ (.int .u64 (L (n * 10 % M384) 3))).setCell ⟨Bn, 4, none⟩ (.int .u64 (L (n * 10 % M384) 4))).setCell ⟨Bn, 5, none⟩ (.int .u64 (L (n * 10 % M384) 5))) (some Bn) := grown_set (grown_set (grown_set (grown_set (grown_set (grown_set G1.out)))))
  generalize ((((((u1.setCell ⟨Bn, 0, none⟩ (.int .u64 (L (n * 10 % M384) 0))).setCell ⟨Bn, 1, none⟩ (.int .u64 (L (n * 10 % M384) 1))).setCell ⟨Bn, 2, none⟩ (.int .u64 (L (n * 10 % M384) 2))).setCell ⟨Bn, 3, none⟩ (.int .u64 (L (n * 10 % M384) 3))).setCell ⟨Bn, 4, none⟩ (.int .u64 (L (n * 10 % M384) 4))).setCell ⟨Bn, 5, none⟩ (.int .u64 (L (n * 10 % M384) 5))) = u2 at HS2 HT2 HG2 ⊢
  have S2 := Lib.hid HS2
  have T2 := Lib.hid HT2
  have G2 := Lib.hid HG2
  clear HS2 HT2 HG2 S1 T1 G1
  have hqr := Nat.div_add_mod (n * 10 % M384) sz
  have hrl := Nat.mod_lt (n * 10 % M384) h0
  have hq9 : n * 10 % M384 / sz ≤ 9 := by
    have h1 : n * 10 % M384 ≤ n * 10 := Nat.mod_le _ _
    have h2 : n * 10 % M384 / sz < 10 := Nat.div_lt_of_lt_mul (by omega)
    omega
  have hn6 : n * 10 % M384 < N6 := mod_N6 _
  generalize hN : n * 10 % M384 = N at *
  generalize hq : N / sz = q at *
  generalize hr : N % sz = r at *
  have QR := Lib.hid hqr
  have N6' := Lib.hid hn6
  have RL := Lib.hid hrl
  clear hqr hn6 hrl
  gi_loopw [4] (fun d wr => ∃ i : Nat, d = .int .i64 i ∧ i ≤ q ∧ Six wr Bn (L (sz * (q - i) + r)) ∧ Six wr Bs (L sz) ∧ u.grownBy wr (some Bn)) (fun d _ => q - (intOf d).toNat)
  case atStart => exact ⟨0, rfl, by omega, by rw [Nat.sub_zero, QR.out]; exact S2.out, T2.out, G2.out⟩
  case round =>
    obtain ⟨i, rfl, hi, hs, ht, hg⟩ := hrel
    clear S2 T2 G2
    have hle : sz * (q - i) + r < N6 := Nat.lt_of_le_of_lt (by rw [← QR.out]; exact Nat.add_le_add_right (Nat.mul_le_mul_left _ (by omega)) _) N6'.out
    have HL := Lib.hid hle
    clear hle
    by_cases hlt : i < q
    · have e1 : sz * (q - i) + r = sz * (q - (i + 1)) + r + sz := by
        rw [show q - i = q - (i + 1) + 1 by omega, Nat.mul_succ]; omega
      rw [e1] at hs HL
      generalize hd : sz * (q - (i + 1)) + r = d at hs HL
      have HD := Lib.hid hd
      clear e1 hd
      have hcm : (0 : Int) ≤ cmpN (d + sz) sz := by unfold cmpN; rw [if_neg (by omega)]; split <;> omega
      have ew : IntKind.i64.wrap ((i : Int) + 1) = (i : Int) + 1 := IntWalk.i64_in _ ⟨by omega, by omega⟩
      have S := Lib.hid hs
      have TT := Lib.hid ht
      have G := Lib.hid hg
      clear hs ht hg
      obtain ⟨c0, c1, c2, c3, c4, c5⟩ := S.out.cells
      obtain ⟨d0, d1, d2, d3, d4, d5⟩ := TT.out.cells
      gi_wp2_with (fail)
      refine ⟨trivial, (callsIn_wide.2 (compare_any (d + sz) sz HL.out hsz _)).mono ?_⟩
      rintro e u3 ⟨rfl, hx3⟩
      clear c0 c1 c2 c3 c4 c5 d0 d1 d2 d3 d4 d5
      have S3 := Lib.hid (S.out.later hx3)
      have T3 := Lib.hid (TT.out.later hx3)
      have G3 := Lib.hid (grown_trans G.out (grown_ext hx3))
      clear hx3 S TT G
      obtain ⟨c0, c1, c2, c3, c4, c5⟩ := S3.out.cells
      obtain ⟨d0, d1, d2, d3, d4, d5⟩ := T3.out.cells
      gi_wp2_with (fail)
      refine ⟨trivial, (callsIn_wide.2 (minus_any d sz _)).mono ?_⟩
      rintro e u4 ⟨rfl, hx4⟩
      clear c0 c1 c2 c3 c4 c5 d0 d1 d2 d3 d4 d5
      have S4 := Lib.hid (S3.out.later hx4)
      have T4 := Lib.hid (T3.out.later hx4)
      have G4 := Lib.hid (grown_trans G3.out (grown_ext hx4))
      clear hx4 S3 T3 G3
      obtain ⟨c0, c1, c2, c3, c4, c5⟩ := S4.out.cells
      have f0 := S4.out.froz
      gi_wp2_with (fail)
      clear c0 c1 c2 c3 c4 c5 f0
      go_roundw
      case rel => exact ⟨i + 1, by go_num, by omega, by rw [HD.out]; exact S4.out.put (L d), T4.out.put_other hne, grown_set (grown_set (grown_set (grown_set (grown_set (grown_set G4.out)))))⟩
      case measure => simp [intOf]; omega
    · obtain rfl : i = q := by omega
      rw [Nat.sub_self, Nat.mul_zero, Nat.zero_add] at hs HL
      have hcm : ¬ (0 : Int) ≤ cmpN r sz := by have := RL.out; unfold cmpN; rw [if_pos this]; omega
      have HY := Lib.hid (H2.out k n u)
      have S := Lib.hid hs
      have TT := Lib.hid ht
      have G := Lib.hid hg
      clear hs ht hg
      obtain ⟨c0, c1, c2, c3, c4, c5⟩ := S.out.cells
      obtain ⟨d0, d1, d2, d3, d4, d5⟩ := TT.out.cells
      gi_wp2_with (fail)
      refine ⟨trivial, (callsIn_wide.2 (compare_any r sz HL.out hsz _)).mono ?_⟩
      rintro e u3 ⟨rfl, hx3⟩
      clear c0 c1 c2 c3 c4 c5 d0 d1 d2 d3 d4 d5
      have S3 := Lib.hid (S.out.later hx3)
      have G3 := Lib.hid (grown_trans G.out (grown_ext hx3))
      clear hx3 S TT G
      obtain ⟨c0, c1, c2, c3, c4, c5⟩ := S3.out.cells
      obtain ⟨fn, tmps, assign, body, hy, hR⟩ := H3.out k n u3 hn (H2.out k n u u3 HJ.out G3.out (by rw [hN, hr]; exact S3.out))
      rw [hN, hr] at hR
      rw [hN, hr, hq] at hy
      have RR := Lib.hid hR
      clear hR HY
      try dsimp only at hy
      gi_wp2
      refine RR.out.mono ?_
      clear hy
      rintro e W1 (⟨rfl, j, hj, hJ1⟩ | ⟨rfl, hx1⟩)
      · have JJ := Lib.hid hJ1
        clear hJ1
        gi_wp2
        exact ⟨j, hj, r, _, _, _, _, _, _, _, _, _, _, _, _, _, _, _, _, _, _, rfl, JJ⟩
      · have XX := Lib.hid hx1
        clear hx1
        gi_wp2
        exact bodyPost_ret (v := .tuple #[]) (by simp [results, Tryz.results143, go_sem]) rfl ⟨⟨_, rfl⟩, XX.out⟩
end Go.Proofs.YtogfiekbikechaaGreatDoor

namespace Go.Proofs.YtogfiekbikechaaGreatDoor
open Go

section
variable {P : Program} {ops : Array Oper} {Q : Exit → Act → World → Prop} {md : Region.Mode} {T : World → Prop} {s l n : Nat}

theorem rows_lift {row : String} {args : Array Value} {w : World} {R : Value → World → Prop} (h : Rows P row args w R) : RowsIn (Fence.wide.inRound l) n P row args w R := fun c cs _ => by
  obtain ⟨v, w', r, st⟩ := h c cs
  exact ⟨v, w', r, stepsIn_wide.2 st⟩
theorem oper_lift {o : Oper} {a : Act} {w : World} {K : Act → World → Prop} (hnd : ∀ c, o.op ≠ .defer c) (h : o.wp P a w K Q) : o.wpIn (Fence.wide.inRound l) n P a w K Q := by
  refine ⟨fun _ _ => trivial, ?_⟩
  have e : (Fence.wide.inRound l).round = some l := rfl
  rw [e, Oper.semAt_some l _ _ hnd]
  unfold Oper.wp at h
  generalize (execOp a.eval o).run P w = r at *
  cases r with
  | ok x w' =>
    cases x <;> simp only [Oper.upon, Oper.uponIn] at h ⊢
    case value u => exact h
    case skip => exact h
    case defer d => exact h
    case enter f args =>
      refine ⟨fun e => by simp [Fence.inRound, Fence.wide] at e, ?_⟩
      exact (callsIn_wide (n := n - 1)).2 h
    case row row args => exact ⟨fun e => by simp [Fence.inRound, Fence.wide] at e, rows_lift h⟩
  | halt x w' =>
    cases x <;> simp only [Oper.upon, Oper.uponIn] at h ⊢
    case panic u => exact h
theorem wpOp_lift {i : Nat} {a : Act} {w : World} {K K' : Act → World → Prop} (hq : ¬ LetsOut Q) (hnd : ∀ (j : Nat) (o : Oper) c, ops[j]? = some o → o.op ≠ .defer c) (hk : ∀ a w, K a w → K' a w)
    (h : wpOp P ops Q i K a w) : wpOpIn (Fence.wide.inRound l) n P ops Q i K' a w := by
  have h := wpOp_mono hk h
  unfold wpOp at h
  unfold wpOpIn
  cases ho : ops[i]? with
  | none => simp only [ho] at h ⊢; exact h
  | some o =>
    simp only [ho] at h ⊢
    split
    · rename_i hw
      simp only [hw, if_true] at h
      rcases h with h | ⟨_, h⟩
      · exact oper_lift (fun c => hnd i o c ho) h
      · exact absurd h hq
    · rename_i hw
      simp only [hw] at h
      exact ⟨fun _ _ => trivial, h⟩
theorem wpAny_lift (hq : ¬ LetsOut Q) (hnd : ∀ (j : Nat) (o : Oper) c, ops[j]? = some o → o.op ≠ .defer c) : ∀ (fuel : Nat) (listed : Array Bool) (a : Act) (w : World),
    wpAny P md ops Q fuel listed a w → wpAnyIn (Fence.wide.inRound l) n P md ops Q fuel listed a w
  | 0, _, _, _, h => h
  | fuel + 1, _, _, _, h => ⟨h.1, fun i hi => wpOp_lift hq hnd (fun a' w' h' => wpAny_lift hq hnd fuel _ a' w' h') (h.2 i hi)⟩
def noDefer (ops : Array Oper) : Bool := ops.all fun o => match o.op with | .defer _ => false | _ => true
theorem noDefer_spec (h : noDefer ops = true) (j : Nat) (o : Oper) (c : Call) (ho : ops[j]? = some o) : o.op ≠ .defer c := by
  intro e
  unfold noDefer at h
  rw [Array.all_eq_true_iff_forall_mem] at h
  have := h o (Array.mem_of_getElem? ho)
  rw [e] at this
  cases this
theorem wpIn_region_S {id : Nat} {a : Act} {w : World} (T : World → Prop) (s : Nat) (hm : P.follows .mixedOrders = true) (hd : noDefer ops = true) (hq : ¬ LetsOut Q)
    (h : GoS P .any ops Q T s ops.size (Array.replicate ops.size false) a w.drew) : (Code.region id ops true).wpIn (Fence.wide.inRound l) n P Q a w :=
  wpIn_region_any hm (wpAny_lift hq (noDefer_spec hd) _ _ _ _ (wpAny_of_S _ _ _ _ (h (closed_start _))))
end
end Go.Proofs.YtogfiekbikechaaGreatDoor

namespace Go.Proofs.YtogfiekbikechaaGreatDoor
open Go.RowKit

/-- The blocks of shortest: the text's, the decimal's (at H), whether the mantissa is even (at H + 1). -/
structure Sh (w : World) (H : Nat) (W : World) (c : Nat → Value) (t : ByteArray) (ev : Bool) : Prop where
  d : Dk W H c
  t : W.cell? ⟨w.heap.size + 1, 0, none⟩ = some (.string t)
  tf : W.frozen? ⟨w.heap.size + 1, 0, none⟩ = false
  ev : W.cell? ⟨H + 1, 0, none⟩ = some (.bool ev)
  e : Ext w W
  h : w.heap.size + 2 ≤ H
theorem Sh.later {w : World} {H : Nat} {W W' : World} {c : Nat → Value} {t : ByteArray} {ev : Bool} (h : Sh w H W c t ev) (hx : Ext W W') : Sh w H W' c t ev :=
  ⟨h.d.later hx, (hx.cell 0 (World.block_lt_of_cell? W _ h.t)).trans h.t, (hx.froz 0 (World.block_lt_of_cell? W _ h.t)).trans h.tf, (hx.cell 0 (World.block_lt_of_cell? W _ h.ev)).trans h.ev, h.e.trans hx, h.h⟩
/-- A world that has turned one block besides. -/
theorem Sh.grown {w : World} {H : Nat} {W W' : World} {c : Nat → Value} {t : ByteArray} {ev : Bool} {r : Option Nat} (h : Sh w H W c t ev) (hg : W.grownBy W' r) (hr : ∀ x, r = some x → H + 2 ≤ x) : Sh w H W' c t ev := by
  have hh := h.h
  have k : ∀ b, b < W.heap.size → b ≤ H + 1 → W'.heap[b]? = W.heap[b]? := fun b hb hb2 => hg.block b hb (fun e => by have := hr b e.symm; omega)
  have l0 := h.d.lt
  have l1 : w.heap.size + 1 < W.heap.size := World.block_lt_of_cell? W _ h.t
  have l2 : H + 1 < W.heap.size := World.block_lt_of_cell? W _ h.ev
  have k1 := k (w.heap.size + 1) l1 (by omega)
  have k2 := k (H + 1) l2 (by omega)
  refine ⟨⟨fun j hj => (World.cell?_of_block (k H l0 (by omega))).trans (h.d.cell j hj), fun j => (World.frozen?_of_block (k H l0 (by omega))).trans (h.d.froz j)⟩,
    (World.cell?_of_block (a := ⟨w.heap.size + 1, 0, none⟩) k1).trans h.t, (World.frozen?_of_block (a := ⟨w.heap.size + 1, 0, none⟩) k1).trans h.tf, (World.cell?_of_block (a := ⟨H + 1, 0, none⟩) k2).trans h.ev, ?_, h.h⟩
  exact h.e.trans' ⟨hg.os, hg.tape, hg.output, hg.size, fun b hb => hg.block b (Nat.lt_of_lt_of_le hb h.e.size) (fun e => by have := hr b e.symm; omega)⟩
theorem Sh.dset {w : World} {H : Nat} {W : World} {c : Nat → Value} {t : ByteArray} {ev : Bool} (h : Sh w H W c t ev) {k : Nat} (hk : k < 25) (v : Value) : Sh w H (W.setCell ⟨H, k, none⟩ v) (fun j => if j = k then v else c j) t ev := by
  have hh := h.h
  refine ⟨h.d.set hk v, ?_, by rw [World.frozen?_setCell]; exact h.tf, ?_, h.e.setCell (by simp; omega) v, h.h⟩
  · rw [← h.t]; apply World.cell?_setCell_other; intro e; simp at e; try omega
  · rw [← h.ev]; apply World.cell?_setCell_other; intro e; simp at e; try omega
theorem Sh.dput {w : World} {H : Nat} {W : World} {c c' : Nat → Value} {t : ByteArray} {ev : Bool} {o : Nat} {Y : Nat → Nat} (h : Sh w H W c t ev) (hd : Dk (put6 W H o Y) H c') (ho : o + 6 ≤ 25) : Sh w H (put6 W H o Y) c' t ev := by
  have := (((((h.dset (k := o) (by omega) (.int .u64 (Y 0))).dset (k := o + 1) (by omega) (.int .u64 (Y 1))).dset (k := o + 2) (by omega) (.int .u64 (Y 2))).dset (k := o + 3) (by omega) (.int .u64 (Y 3))).dset (k := o + 4) (by omega) (.int .u64 (Y 4))).dset (k := o + 5) (by omega) (.int .u64 (Y 5))
  exact ⟨hd, this.t, this.tf, this.ev, this.e, h.h⟩
theorem Sh.text {w : World} {H : Nat} {W : World} {c : Nat → Value} {t : ByteArray} {ev : Bool} (h : Sh w H W c t ev) (s : ByteArray) : Sh w H (W.setCell ⟨w.heap.size + 1, 0, none⟩ (.string s)) c s ev := by
  have hh := h.h
  refine ⟨h.d.other (by omega), World.cell?_setCell_same' _ _ _ (by rw [h.t]; rfl), by rw [World.frozen?_setCell]; exact h.tf, ?_, h.e.setCell (by simp) _, h.h⟩
  rw [← h.ev]; apply World.cell?_setCell_other; intro e; simp at e; try omega
theorem Six.turned {a b : World} {r : Option Nat} {c : Nat} {X : Nat → Nat} (h : Six a c X) (hg : a.grownBy b r) (hn : ¬ r = some c) : Six b c X where
  cell := fun j hj => by rw [← h.cell j hj]; exact World.cell?_of_block (a := ⟨c, j, none⟩) (hg.block c h.lt (fun e => hn e.symm))
  froz := fun j => by rw [← h.froz j]; exact World.frozen?_of_block (a := ⟨c, j, none⟩) (hg.block c h.lt (fun e => hn e.symm))
theorem Six.of_set {w : World} {b c k : Nat} {X : Nat → Nat} {v : Value} (h : Six w b X) (hn : b ≠ c) : Six (w.setCell ⟨c, k, none⟩ v) b X := h.other hn
/-- Behind the loop: the text is written once more, the mark is taken. -/
theorem sh_end {w : World} {H : Nat} {W : World} {c : Nat → Value} {t T0 : ByteArray} {ev : Bool} {D : Nat} (h : Sh w H W c t ev) (hK : W.heap[D]? = some (.deferred (some []))) (hD : H + 2 ≤ D) :
    (W.setCell ⟨w.heap.size + 1, 0, none⟩ (.string T0)).drew.heap[D]? = some (.deferred (some [])) ∧
    ((W.setCell ⟨w.heap.size + 1, 0, none⟩ (.string T0)).drew.putObj D (.deferred none)).cell? ⟨w.heap.size + 1, 0, none⟩ = some (.string T0) ∧
    Ext w ((W.setCell ⟨w.heap.size + 1, 0, none⟩ (.string T0)).drew.putObj D (.deferred none)) := by
  have h2 := (h.text T0).later ((Ext.refl _).drew)
  have hK' : (W.setCell ⟨w.heap.size + 1, 0, none⟩ (.string T0)).drew.heap[D]? = some (.deferred (some [])) :=
    (KeepsOthers.setCell W ⟨w.heap.size + 1, 0, none⟩ (.string T0)).same D _ hK rfl
  have h3 := h2.grown (grownBy_putObj' _ D (.deferred none)) (fun x e => by cases e; exact hD)
  exact ⟨hK', h3.t, h3.e⟩
end Go.Proofs.YtogfiekbikechaaGreatDoor

namespace Go.Proofs.YtogfiekbikechaaGreatDoor
open Go.RowKit

/-- A digit (or 10) as text. -/
def itoaD (d : Nat) : List UInt8 := if d < 10 then [UInt8.ofNat (48 + d)] else [49, 48]
def txt : List Nat → List UInt8
  | [] => []
  | d :: r => itoaD d ++ txt r
def dnB (even : Bool) (r bl : Nat) : Bool := decide (r < bl) || (decide (r = bl) && even)
def hiB (even : Bool) (ra size : Nat) : Bool := decide (size < ra) || (decide (ra = size) && even)
def nrB (rr size digit : Nat) : Bool := decide (size < rr) || (decide (rr = size) && digit % 2 == 1)
/-- Whether the last digit is increased. -/
def incB (even : Bool) (size digit r bl ab : Nat) : Bool :=
  if dnB even r bl && hiB even ((r + ab) % M384) size then nrB ((r + r) % M384) size digit else hiB even ((r + ab) % M384) size
def stopB (even : Bool) (size digit r bl ab : Nat) : Bool := dnB even r bl || incB even size digit r bl ab
def digB (even : Bool) (size digit r bl ab : Nat) : Nat := if incB even size digit r bl ab then digit + 1 else digit
/-- The loop ends within so many rounds. -/
def shortDone (even : Bool) (size : Nat) : Nat → Nat → Nat → Nat → Bool
  | 0, _, _, _ => false
  | f + 1, num, below, above =>
    stopB even size (num * 10 % M384 / size) (num * 10 % M384 % size) (below * 10 % M384) (above * 10 % M384) || shortDone even size f (num * 10 % M384 % size) (below * 10 % M384) (above * 10 % M384)
theorem shortL_succ (even : Bool) (size f num below above : Nat) : shortL even size (f + 1) num below above =
    let digit := num * 10 % M384 / size
    let r := num * 10 % M384 % size
    let bl := below * 10 % M384
    let ab := above * 10 % M384
    if stopB even size digit r bl ab then [digB even size digit r bl ab] else digB even size digit r bl ab :: shortL even size f r bl ab := by
  unfold stopB digB incB dnB hiB nrB
  rw [shortL]
theorem digB_go {even : Bool} {size digit r bl ab : Nat} (h : stopB even size digit r bl ab = false) : digB even size digit r bl ab = digit := by
  unfold stopB at h
  rw [Bool.or_eq_false_iff] at h
  unfold digB; rw [h.2]; rfl
theorem short_go {even : Bool} {size k num below above : Nat} (h : shortDone even size k num below above = true) (hs : stopB even size (num * 10 % M384 / size) (num * 10 % M384 % size) (below * 10 % M384) (above * 10 % M384) = false) :
    ∃ j, k = j + 1 ∧ shortDone even size j (num * 10 % M384 % size) (below * 10 % M384) (above * 10 % M384) = true ∧
      txt (shortL even size k num below above) = itoaD (num * 10 % M384 / size) ++ txt (shortL even size j (num * 10 % M384 % size) (below * 10 % M384) (above * 10 % M384)) := by
  cases k with
  | zero => unfold shortDone at h; cases h
  | succ j =>
    unfold shortDone at h
    rw [hs, Bool.false_or] at h
    refine ⟨j, rfl, h, ?_⟩
    rw [shortL_succ]
    simp only [hs, Bool.false_eq_true, if_false]
    rw [digB_go hs]; rfl
theorem short_stop {even : Bool} {size k num below above : Nat} (h : shortDone even size k num below above = true) (hs : stopB even size (num * 10 % M384 / size) (num * 10 % M384 % size) (below * 10 % M384) (above * 10 % M384) = true) :
    txt (shortL even size k num below above) = itoaD (digB even size (num * 10 % M384 / size) (num * 10 % M384 % size) (below * 10 % M384) (above * 10 % M384)) := by
  cases k with
  | zero => unfold shortDone at h; cases h
  | succ j =>
    rw [shortL_succ]
    simp only [hs, if_true]
    unfold txt txt; simp
theorem round_stop {even : Bool} {size k num below above q r bl2 ab2 : Nat} {t X : List UInt8} (hr : num * 10 % M384 % size = r) (hq : num * 10 % M384 / size = q) (hb : below * 10 % M384 = bl2) (ha : above * 10 % M384 = ab2)
    (h : shortDone even size k num below above = true) (hs : stopB even size q r bl2 ab2 = true) (ht : t ++ txt (shortL even size k num below above) = X) : t ++ itoaD (digB even size q r bl2 ab2) = X := by
  subst hr hq hb ha
  rw [← ht, short_stop h hs]
theorem round_go {even : Bool} {size k num below above q r bl2 ab2 : Nat} {t X : List UInt8} (hr : num * 10 % M384 % size = r) (hq : num * 10 % M384 / size = q) (hb : below * 10 % M384 = bl2) (ha : above * 10 % M384 = ab2)
    (h : shortDone even size k num below above = true) (hs : stopB even size q r bl2 ab2 = false) (ht : t ++ txt (shortL even size k num below above) = X) (hl : t.length + k ≤ 60) (hq9 : q ≤ 9) :
    ∃ j, k = j + 1 ∧ shortDone even size j r bl2 ab2 = true ∧ (t ++ itoaD (digB even size q r bl2 ab2)) ++ txt (shortL even size j r bl2 ab2) = X ∧ (t ++ itoaD (digB even size q r bl2 ab2)).length + j ≤ 60 := by
  subst hr hq hb ha
  obtain ⟨j, rfl, h1, h2⟩ := short_go h hs
  refine ⟨j, rfl, h1, by rw [digB_go hs, ← ht, h2, List.append_assoc], ?_⟩
  rw [digB_go hs]
  unfold itoaD
  rw [if_pos (by omega)]
  simp; omega
theorem digB_le {even : Bool} {size q r bl ab : Nat} (h : q ≤ 9) : digB even size q r bl ab ≤ 10 := by unfold digB; split <;> omega
theorem itoaD_len (d : Nat) : (itoaD d).length ≤ 2 := by unfold itoaD; split <;> simp
/-- The text, and the place of the point. -/
def shT (D : Dec) (even : Bool) : List UInt8 × Int :=
  let t := txt (shortL even D.size 60 D.num D.below D.above)
  if t = [49, 48] then ([49], D.point + 1) else (t, D.point)
theorem cmpN_lt {a b : Nat} : cmpN a b < 0 ↔ a < b := by unfold cmpN; split <;> (try split) <;> omega
theorem cmpN_eq {a b : Nat} : cmpN a b = 0 ↔ a = b := by unfold cmpN; split <;> (try split) <;> omega
theorem cmpN_gt {a b : Nat} : cmpN a b > 0 ↔ b < a := by unfold cmpN; split <;> (try split) <;> omega

theorem keeps_ext {a b : World} (h : Ext a b) : KeepsOthers a b := ⟨h.size, fun k _o hk _ => (h.bel.block k (Array.getElem?_eq_some_iff.1 hk).1).trans hk⟩
/-- A round's blocks: what is left (at R), the iterator's number and size (at N, S). -/
structure Rd (w : World) (H R N S : Nat) (v u : World) (c : Nat → Value) (t : ByteArray) (ev : Bool) (r sz : Nat) : Prop where
  sh : Sh w H u c t ev
  fr : Six u R (L r)
  fn : Six u N (L r)
  fs : Six u S (L sz)
  k : KeepsOthers v u
  hr : H + 2 ≤ R
  hn : H + 2 ≤ N
  hs : H + 2 ≤ S
theorem Rd.later {w : World} {H R N S : Nat} {v u u' : World} {c : Nat → Value} {t : ByteArray} {ev : Bool} {r sz : Nat} (h : Rd w H R N S v u c t ev r sz) (hx : Ext u u') : Rd w H R N S v u' c t ev r sz :=
  ⟨h.sh.later hx, h.fr.later hx, h.fn.later hx, h.fs.later hx, h.k.trans (keeps_ext hx), h.hr, h.hn, h.hs⟩
theorem Rd.drew {w : World} {H R N S : Nat} {v u : World} {c : Nat → Value} {t : ByteArray} {ev : Bool} {r sz : Nat} (h : Rd w H R N S v u c t ev r sz) : Rd w H R N S v u.drew c t ev r sz := h.later ((Ext.refl u).drew)
theorem keeps_put6 {v u : World} {b o : Nat} {Y : Nat → Nat} (h : KeepsOthers v u) : KeepsOthers v (put6 u b o Y) :=
  h.trans ((((((KeepsOthers.setCell _ _ _).trans (KeepsOthers.setCell _ _ _)).trans (KeepsOthers.setCell _ _ _)).trans (KeepsOthers.setCell _ _ _)).trans (KeepsOthers.setCell _ _ _)).trans (KeepsOthers.setCell _ _ _))
theorem Rd.dput {w : World} {H R N S : Nat} {v u : World} {c c' : Nat → Value} {t : ByteArray} {ev : Bool} {r sz o : Nat} {Y : Nat → Nat} (h : Rd w H R N S v u c t ev r sz) (hd : Dk (put6 u H o Y) H c') (ho : o + 6 ≤ 25) : Rd w H R N S v (put6 u H o Y) c' t ev r sz := by
  have a := h.hr; have b := h.hn; have c := h.hs
  exact ⟨h.sh.dput hd ho, h.fr.put6_other (by omega), h.fn.put6_other (by omega), h.fs.put6_other (by omega), keeps_put6 h.k, a, b, c⟩
theorem Rd.bel {w : World} {H R N S : Nat} {v u : World} {n bl ab z : Nat} {pt : Int} {t : ByteArray} {ev : Bool} {r sz : Nat} (h : Rd w H R N S v u (dF n bl ab z pt) t ev r sz) (y : Nat) : Rd w H R N S v (put6 u H 6 (L y)) (dF n y ab z pt) t ev r sz := h.dput (h.sh.d.putB y) (by omega)
theorem Rd.abv {w : World} {H R N S : Nat} {v u : World} {n bl ab z : Nat} {pt : Int} {t : ByteArray} {ev : Bool} {r sz : Nat} (h : Rd w H R N S v u (dF n bl ab z pt) t ev r sz) (y : Nat) : Rd w H R N S v (put6 u H 12 (L y)) (dF n bl y z pt) t ev r sz := h.dput (h.sh.d.putA y) (by omega)
theorem Rd.text {w : World} {H R N S : Nat} {v u : World} {c : Nat → Value} {t : ByteArray} {ev : Bool} {r sz : Nat} (h : Rd w H R N S v u c t ev r sz) (s : ByteArray) : Rd w H R N S v (u.setCell ⟨w.heap.size + 1, 0, none⟩ (.string s)) c s ev r sz := by
  have a := h.hr; have b := h.hn; have c := h.hs; have d := h.sh.h
  exact ⟨h.sh.text s, h.fr.other (by omega), h.fn.other (by omega), h.fs.other (by omega), h.k.trans (KeepsOthers.setCell _ _ _), a, b, c⟩
end Go.Proofs.YtogfiekbikechaaGreatDoor

namespace Go.Proofs.YtogfiekbikechaaGreatDoor
open Go.RowKit

/-- A property of worlds that speaks of cells, and of nothing that lies from B on. -/
def OwnW (B : Nat) (p : World → Prop) : Prop :=
  ∀ W W' row, p W → W.grownBy W' row → (∀ r, row = some r → B ≤ r ∧ ∃ o : Obj, W.heap[r]? = some o ∧ o.isCells = false) → p W'
theorem OwnW.alloc {B : Nat} {p : World → Prop} (h : OwnW B p) {W : World} (o : Obj) (hs : p W) : p (W.alloc o) := h W _ none hs (World.grownBy_alloc W o none) (fun r e => by cases e)
theorem OwnW.put {B : Nat} {p : World → Prop} (h : OwnW B p) {W : World} {l : Nat} {o : Obj} (o' : Obj) (hB : B ≤ l) (hs : p W) (hl : W.heap[l]? = some o) (ho : o.isCells = false) : p (W.putObj l o') :=
  h W _ (some l) hs (grownBy_putObj' W l o') (fun r e => by cases e; exact ⟨hB, o, hl, ho⟩)
/-- How the body of a round may be left. -/
def postB (sz : Nat) (I : Nat → Nat → World → Prop) (Ix : Code → World → Prop) (k m : Nat) (W : World) : Exit → Act → World → Prop
  | .normal, _, W' => KeepsOthers W W' ∧ ∃ j, j < k ∧ I j (m * 10 % M384 % sz) W'
  | .ret, _, W' => KeepsOthers W W' ∧ Ix .ret W'
  | .exit id, _, W' => KeepsOthers W W' ∧ Ix (.exit id) W'
  | .goto t, _, W' => KeepsOthers W W' ∧ Ix (.goto t) W'
  | .panic _, _, _ => False
  | .outgrown, _, _ => False

theorem range_digits {g : Operand} {ps : Array Tmp} {assign body : Code} {Q : Exit → Act → World → Prop} {a : Act} {w : World} (Bn Bs sz : Nat) (hne : Bs ≠ Bn) (h0 : 0 < sz) (hsz : sz < N6) (hBn : Bn < w.heap.size)
    (hg : a.eval g = .func (.func 143) #[] #[.pointer (some ⟨Bn, 0, none⟩), .pointer (some ⟨Bs, 0, none⟩)]) (eg : ∀ args w, (callFunc 143 args).run Tryz.prog w = .ok (.enter 143 args) w) (hps : ps.size = 2)
    (I I' : Nat → Nat → World → Prop) (Ix : Code → World → Prop) (hI : ∀ k m, OwnW w.heap.size (I k m)) (_hI' : ∀ k m, OwnW w.heap.size (I' k m)) (hIx : ∀ c, OwnW w.heap.size (Ix c))
    (hsix : ∀ k n W, I k n W → n < sz ∧ Six W Bn (L n) ∧ Six W Bs (L sz))
    (hII : ∀ k n W W1, I k n W → W.grownBy W1 (some Bn) → Six W1 Bn (L (n * 10 % M384 % sz)) → I' k n W1)
    (k0 n0 : Nat) (hst : I k0 n0 w)
    (hround : ∀ k m W, m < sz → w.heap.size + 1 < W.heap.size → I' k m W → assign.wpIn (Fence.wide.inRound (w.heap.size + 1)) 2 Tryz.prog (Exit.then (fun a1 w1 => KeepsOthers W w1 ∧ ∀ o', body.wpIn (Fence.wide.inRound (w.heap.size + 1)) 2 Tryz.prog (postB sz I Ix k m (w1.putObj (w.heap.size + 1) o')) a1 (w1.putObj (w.heap.size + 1) o')) (fun _ _ _ => False))
      { tmps := (ps.zip #[.int .i64 ((m * 10 % M384 / sz : Nat) : Int), .agg #[.int .u64 (L (m * 10 % M384 % sz) 0), .int .u64 (L (m * 10 % M384 % sz) 1), .int .u64 (L (m * 10 % M384 % sz) 2), .int .u64 (L (m * 10 % M384 % sz) 3), .int .u64 (L (m * 10 % M384 % sz) 4), .int .u64 (L (m * 10 % M384 % sz) 5)]]).foldl (fun t (p, v) => t.setIfInBounds p v) a.tmps, defers := [] } W)
    (hstop : ∀ (D : Nat) (c : Code) (W : World), Ix c W → W.heap[D]? = some (.deferred (some [])) → w.heap.size ≤ D → c.wpIn Fence.wide 4 Tryz.prog Q { a with defers := { target := .collected D, args := #[] } :: a.defers } W) :
    (Code.rangeFunc g ps assign body).wpIn Fence.wide 4 Tryz.prog Q a w := by
  refine wpIn_rangeFunc ?_
  intro fn hfn
  rw [show Fence.wide.round = none from rfl]
  obtain ⟨rec, hrec⟩ : ∃ rec : LoopState → Option Code → Loop, rec = fun st pe => { state := st, pending := pe, fn, tmps := a.tmps, params := ps, assign, body, defers := w.heap.size } := ⟨_, rfl⟩
  obtain ⟨W1, hW1⟩ : ∃ W1, (w.alloc (.deferred (some []))).alloc (.loop (rec .ready none)) = W1 := ⟨_, rfl⟩
  have hL1 : W1.heap[w.heap.size + 1]? = some (.loop (rec .ready none)) := by
    rw [← hW1]; have := World.alloc_heap_new (w.alloc (.deferred (some []))) (.loop (rec .ready none)); rwa [World.size_alloc] at this
  have hK1 : W1.heap[w.heap.size]? = some (.deferred (some [])) := by
    rw [← hW1]; exact (Below.heap_alloc _ _ _ (by simp)).trans (World.alloc_heap_new w _)
  have hI1 : I k0 n0 W1 := by rw [← hW1]; exact (hI _ _).alloc _ ((hI _ _).alloc _ hst)
  refine ⟨w.heap.size + 1, [{ target := .collected w.heap.size, args := #[] }], W1, { target := .fn (.func 143) #[.pointer (some ⟨Bn, 0, none⟩), .pointer (some ⟨Bs, 0, none⟩)], args := #[.func (.yield (w.heap.size + 1)) #[] #[]] }, W1, 143,
    #[.func (.yield (w.heap.size + 1)) #[] #[]] ++ #[.pointer (some ⟨Bn, 0, none⟩), .pointer (some ⟨Bs, 0, none⟩)], W1, ?_, ?_, ?_, ?_, fun _ => by omega, ?_⟩
  · rw [← hW1, hrec]; exact run_enterLoop_outer _ _ _ _ _
  · simp only [resolve, hg]
    simp [go_sem]
  · intro f' _; trivial
  · simp [invoke, go_sem, eg]
  · refine (digits_in Bn Bs sz (w.heap.size + 1) hne h0 hsz
      (fun k m W => I k m W ∧ W.heap[w.heap.size + 1]? = some (.loop (rec .ready none)) ∧ W.heap[w.heap.size]? = some (.deferred (some [])))
      (fun k m W => I' k m W ∧ W.heap[w.heap.size + 1]? = some (.loop (rec .ready none)) ∧ W.heap[w.heap.size]? = some (.deferred (some [])))
      (fun W => ∃ c, Ix c W ∧ W.heap[w.heap.size + 1]? = some (.loop (rec .done (some c))) ∧ W.heap[w.heap.size]? = some (.deferred (some [])))
      (fun k m W h => hsix k m W h.1) ?_ ?_ k0 n0 W1 ⟨hI1, hL1, hK1⟩).mono ?_
    · rintro k m W W2 ⟨hi, hl, hk⟩ hgr hs
      have l1 := (Array.getElem?_eq_some_iff.1 hl).1
      have l2 := (Array.getElem?_eq_some_iff.1 hk).1
      exact ⟨hII k m W W2 hi hgr hs, (hgr.block _ l1 (fun e => by cases e; omega)).trans hl, (hgr.block _ l2 (fun e => by cases e; omega)).trans hk⟩
    · rintro k m W hm ⟨hi, hl, hk⟩
      have hlt : w.heap.size + 1 < W.heap.size := (Array.getElem?_eq_some_iff.1 hl).1
      have hy := run_yield (P := Tryz.prog) (args := #[.int .i64 ((m * 10 % M384 / sz : Nat) : Int), .agg #[.int .u64 (L (m * 10 % M384 % sz) 0), .int .u64 (L (m * 10 % M384 % sz) 1), .int .u64 (L (m * 10 % M384 % sz) 2), .int .u64 (L (m * 10 % M384 % sz) 3), .int .u64 (L (m * 10 % M384 % sz) 4), .int .u64 (L (m * 10 % M384 % sz) 5)]]) hl (by rw [hrec]; simp [hps])
      rw [hrec] at hy
      refine ⟨fn, _, assign, body, hy, roundIn_of_wpIn hfn (Code.wpIn_mono ?_ (hround k m W hm hlt hi))⟩
      intro e a2 w2 hq
      cases e with
      | normal =>
        obtain ⟨hk2, hb⟩ := hq
        have hl2 := hk2.same _ _ hl rfl
        have hd2 := hk2.same _ _ hk rfl
        have hlt2 : w.heap.size + 1 < w2.heap.size := (Array.getElem?_eq_some_iff.1 hl2).1
        refine ⟨_, run_beginRound hl2 (by rw [hrec]), ?_⟩
        have hl3 : (w2.putObj (w.heap.size + 1) (.loop { rec .ready none with state := .busy })).heap[w.heap.size + 1]? = some (.loop { rec .ready none with state := .busy }) := World.putObj_heap_same hlt2
        have hd3 : (w2.putObj (w.heap.size + 1) (.loop { rec .ready none with state := .busy })).heap[w.heap.size]? = some (.deferred (some [])) := (World.putObj_heap_other (by omega)).trans hd2
        refine wpIn_mono (hb _) ?_
        have fin : ∀ (jump : Option Code) (W3 : World), KeepsOthers (w2.putObj (w.heap.size + 1) (.loop { rec .ready none with state := .busy })) W3 →
            (Instr.endRound (w.heap.size + 1) jump).run Tryz.prog W3 = .ok (.bool jump.isNone) (W3.putObj (w.heap.size + 1) (.loop (rec (if jump.isNone then .ready else .done) jump))) ∧
            W3.heap[w.heap.size + 1]? = some (.loop { rec .ready none with state := .busy }) ∧
            (W3.putObj (w.heap.size + 1) (.loop (rec (if jump.isNone then .ready else .done) jump))).heap[w.heap.size + 1]? = some (.loop (rec (if jump.isNone then .ready else .done) jump)) ∧
            (W3.putObj (w.heap.size + 1) (.loop (rec (if jump.isNone then .ready else .done) jump))).heap[w.heap.size]? = some (.deferred (some [])) := fun jump W3 hk3 => by
          have hl4 := hk3.same _ _ hl3 rfl
          have := run_endRound (P := Tryz.prog) jump hl4
          rw [hrec] at this ⊢
          exact ⟨this, by rw [hrec] at hl4; exact hl4, World.putObj_heap_same (Array.getElem?_eq_some_iff.1 hl4).1, (World.putObj_heap_other (by omega)).trans (hk3.same _ _ hd3 rfl)⟩
        rintro e a3 W3 hp
        cases e with
        | normal =>
          obtain ⟨hk3, j, hj, hi3⟩ := hp
          obtain ⟨hr, hl4, hl5, hk5⟩ := fin none W3 hk3
          exact ⟨_, _, hr, .inl ⟨rfl, j, hj, (hI _ _).put _ (by omega) hi3 hl4 rfl, hl5, hk5⟩⟩
        | ret =>
          obtain ⟨hk3, hi3⟩ := hp
          obtain ⟨hr, hl4, hl5, hk5⟩ := fin (some .ret) W3 hk3
          exact ⟨_, _, hr, .inr ⟨rfl, .ret, (hIx _).put _ (by omega) hi3 hl4 rfl, hl5, hk5⟩⟩
        | exit id =>
          obtain ⟨hk3, hi3⟩ := hp
          obtain ⟨hr, hl4, hl5, hk5⟩ := fin (some (.exit id)) W3 hk3
          exact ⟨_, _, hr, .inr ⟨rfl, .exit id, (hIx _).put _ (by omega) hi3 hl4 rfl, hl5, hk5⟩⟩
        | goto t =>
          obtain ⟨hk3, hi3⟩ := hp
          obtain ⟨hr, hl4, hl5, hk5⟩ := fin (some (.goto t)) W3 hk3
          exact ⟨_, _, hr, .inr ⟨rfl, .goto t, (hIx _).put _ (by omega) hi3 hl4 rfl, hl5, hk5⟩⟩
        | panic ch => exact hp.elim
        | outgrown => exact hp.elim
      | _ => exact hq.elim
    · rintro e W2 ⟨⟨v, rfl⟩, c, hi, hl, hk⟩
      exact ⟨some c, _, by have := run_endLoop (P := Tryz.prog) hl (by rw [hrec]; simp); rw [hrec] at this; exact this, hstop _ c _ ((hIx c).put _ (by omega) hi hl rfl) ((World.putObj_heap_other (by omega)).trans hk) (Nat.le_refl _)⟩
end Go.Proofs.YtogfiekbikechaaGreatDoor
