/- The walk of RealNearest. -/
import Derived.Test.YtehmpffffjcloaaGreatDoorTf
import Derived.Test.YtehmpffffjcloaaGreatDoorTfa
import Derived.Test.YtehmpffffjcloaaGreatDoorTfb
import Derived.Test.YtehmpffffjcloaaGreatDoorTfc
import Derived.Test.YtehmpffffjcloaaGreatDoorTfd
import Derived.Test.YtehmpffffjcloaaGreatDoorGr
namespace Go.Proofs.YtehmpffffjcloaaGreatDoor.realNearest
open Go.RowKit
theorem wraps {a b : Int} (ha : a.natAbs ≤ 1152921504606846976) (hb : b.natAbs ≤ 1152921504606846976) :
    IntKind.i64.wrap (a + b) = a + b ∧ IntKind.i64.wrap (a - b) = a - b ∧ wrap64 (a + b) = a + b ∧ wrap64 (a - b) = a - b :=
  ⟨IntWalk.i64_in _ ⟨by omega, by omega⟩, IntWalk.i64_in _ ⟨by omega, by omega⟩, by unfold wrap64; omega, by unfold wrap64; omega⟩
theorem dists {u c T : Int} (h : (u - T).natAbs ≤ (c - T).natAbs) : max (u - T) (T - u) ≤ max (c - T) (T - c) := by omega
theorem dbd {u a b : Int} (hu : u.natAbs ≤ 4611686018427387904) (ha : a.natAbs ≤ 1152921504606846976) (hb : b.natAbs ≤ 1152921504606846976) :
    (u - (a + b)).natAbs ≤ 9223372036854775807 ∧ (u - (a - b)).natAbs ≤ 9223372036854775807 := by omega
set_option maxHeartbeats 2000000 in
theorem fin_small_small (w : World) (ht : Tb w) (i j k pm px qm qx zm zx a b c : Int) (s d : (Int × Int) × Int) (A : Ret 56 #[.int .i64 i] (.agg #[.int .i64 pm, .int .i64 px])) (B : Ret 56 #[.int .i64 j] (.agg #[.int .i64 qm, .int .i64 qx])) (C : Ret 56 #[.int .i64 k] (.agg #[.int .i64 zm, .int .i64 zx]))
    (SA : Ret 57 #[.agg #[.int .i64 pm, .int .i64 px]] (.tuple #[.int .i64 a, .bool true])) (SB : Ret 57 #[.agg #[.int .i64 qm, .int .i64 qx]] (.tuple #[.int .i64 b, .bool true])) (SC : Ret 57 #[.agg #[.int .i64 zm, .int .i64 zx]] (.tuple #[.int .i64 c, .bool true])) (xp : ¬ px > -24) (xq : ¬ qx > -24) 
    (N1 : Nr s (a + b) c zm zx) (N2 : Nr d (a - b) c zm zx)
    (AD : Ret 35 #[.agg #[.int .i64 pm, .int .i64 px], .agg #[.int .i64 qm, .int .i64 qx]] (.tuple #[.agg #[.int .i64 s.1.1, .int .i64 s.1.2], .int .i64 s.2])) (SU : Ret 36 #[.agg #[.int .i64 pm, .int .i64 px], .agg #[.int .i64 qm, .int .i64 qx]] (.tuple #[.agg #[.int .i64 d.1.1, .int .i64 d.1.2], .int .i64 d.2])) (ha : a.natAbs ≤ 1152921504606846976) (hb : b.natAbs ≤ 1152921504606846976) (hc : c.natAbs ≤ 4611686018427387904) :
    Calls Tryz.prog 10 #[.int .i64 i, .int .i64 j, .int .i64 k] w fun e w' => e = .returned (.bool true) ∧ Ext w w' := by
  obtain ⟨⟨sm, sx⟩, se⟩ := s
  obtain ⟨⟨dm, dx⟩, de⟩ := d
  obtain ⟨k1, v1, or1⟩ := N1
  obtain ⟨k2, v2, or2⟩ := N2
  simp only at *
  subst k1 k2
  have SS := scaled_any v1
  have SD := scaled_any v2
  rcases or1 with ⟨h1, g1⟩ | ⟨u, h1, u1, u2, u3⟩
  · rw [h1] at SS
    rcases or2 with ⟨h2, g2⟩ | ⟨v, h2, y1, y2, y3⟩
    · rw [h2] at SD
      exact near_small_small_2 w ht i j k pm px qm qx zm zx sm sx dm dx a b c 0 0 A B C SA SB SC AD SU sanity_any xp xq SS SD (by omega) (by omega)
    · rw [h2] at SD
      exact near_small_small_1 w ht i j k pm px qm qx zm zx sm sx dm dx a b c 0 v A B C SA SB SC AD SU sanity_any xp xq SS SD (by omega)
  · rw [h1] at SS
    rcases or2 with ⟨h2, g2⟩ | ⟨v, h2, y1, y2, y3⟩
    · rw [h2] at SD
      exact near_small_small_3 w ht i j k pm px qm qx zm zx sm sx dm dx a b c u 0 A B C SA SB SC AD SU sanity_any xp xq SS SD (by omega)
    · rw [h2] at SD
      obtain ⟨wa, wb, wa', wb'⟩ := wraps ha hb
      have DD1 := distance_any u (a + b) _ (dbd u1 ha hb).1 rfl
      have DD2 := distance_any c (a + b) _ (dbd hc ha hb).1 rfl
      have DD3 := distance_any v (a - b) _ (dbd y1 ha hb).2 rfl
      have DD4 := distance_any c (a - b) _ (dbd hc ha hb).2 rfl
      have l1 := dists u2
      have l2 := dists y2
      by_cases ca : c = a + b
      · have es := u3 ca
        obtain ⟨rfl, rfl⟩ := Prod.mk.inj es
        by_cases cb : c = a - b
        · have ed := y3 cb
          obtain ⟨rfl, rfl⟩ := Prod.mk.inj ed
          rw [← ca] at DD1 DD2 l1
          rw [← cb] at DD3 DD4 l2
          exact near_small_small_7 w ht c i j k pm px qm qx dm dx a b u v A B C SA SB SC AD SU sanity_any xp xq SS SD _ _ _ _ (wa.trans ca.symm) (wb.trans cb.symm) (wa'.trans ca.symm) (wb'.trans cb.symm) DD1 DD2 DD3 DD4 l1 l2
        · rw [← ca] at DD1 DD2 l1
          exact near_small_small_5 w ht c (a - b) i j k pm px qm qx sm sx dm dx a b u v A B C SA SB SC AD SU sanity_any xp xq SS SD _ _ _ _ (wa.trans ca.symm) wb (wa'.trans ca.symm) wb' DD1 DD2 DD3 DD4 l1 l2 cb (by simpa using cb)
      · by_cases cb : c = a - b
        · have ed := y3 cb
          obtain ⟨rfl, rfl⟩ := Prod.mk.inj ed
          rw [← cb] at DD3 DD4 l2
          exact near_small_small_6 w ht (a + b) c i j k pm px qm qx dm dx sm sx a b u v A B C SA SB SC AD SU sanity_any xp xq SS SD _ _ _ _ wa (wb.trans cb.symm) wa' (wb'.trans cb.symm) DD1 DD2 DD3 DD4 l1 l2 ca (by simpa using ca)
        · exact near_small_small_4 w ht i j k pm px qm qx zm zx sm sx dm dx a b c u v A B C SA SB SC AD SU sanity_any xp xq SS SD _ _ _ _ (a + b) (a - b) wa wb wa' wb' DD1 DD2 DD3 DD4 l1 l2 ca cb (by simpa using ca) (by simpa using cb)
set_option maxHeartbeats 2000000 in
theorem fin_small_zero (w : World) (ht : Tb w) (i j k pm px zm zx a b c : Int) (s d : (Int × Int) × Int) (A : Ret 56 #[.int .i64 i] (.agg #[.int .i64 pm, .int .i64 px])) (B : Ret 56 #[.int .i64 j] (.agg #[.int .i64 0, .int .i64 0])) (C : Ret 56 #[.int .i64 k] (.agg #[.int .i64 zm, .int .i64 zx]))
    (SA : Ret 57 #[.agg #[.int .i64 pm, .int .i64 px]] (.tuple #[.int .i64 a, .bool true])) (SB : Ret 57 #[.agg #[.int .i64 0, .int .i64 0]] (.tuple #[.int .i64 b, .bool true])) (SC : Ret 57 #[.agg #[.int .i64 zm, .int .i64 zx]] (.tuple #[.int .i64 c, .bool true])) (xp : ¬ px > -24) 
    (N1 : Nr s (a + b) c zm zx) (N2 : Nr d (a - b) c zm zx)
    (AD : Ret 35 #[.agg #[.int .i64 pm, .int .i64 px], .agg #[.int .i64 0, .int .i64 0]] (.tuple #[.agg #[.int .i64 s.1.1, .int .i64 s.1.2], .int .i64 s.2])) (SU : Ret 36 #[.agg #[.int .i64 pm, .int .i64 px], .agg #[.int .i64 0, .int .i64 0]] (.tuple #[.agg #[.int .i64 d.1.1, .int .i64 d.1.2], .int .i64 d.2])) (ha : a.natAbs ≤ 1152921504606846976) (hb : b.natAbs ≤ 1152921504606846976) (hc : c.natAbs ≤ 4611686018427387904) :
    Calls Tryz.prog 10 #[.int .i64 i, .int .i64 j, .int .i64 k] w fun e w' => e = .returned (.bool true) ∧ Ext w w' := by
  obtain ⟨⟨sm, sx⟩, se⟩ := s
  obtain ⟨⟨dm, dx⟩, de⟩ := d
  obtain ⟨k1, v1, or1⟩ := N1
  obtain ⟨k2, v2, or2⟩ := N2
  simp only at *
  subst k1 k2
  have SS := scaled_any v1
  have SD := scaled_any v2
  rcases or1 with ⟨h1, g1⟩ | ⟨u, h1, u1, u2, u3⟩
  · rw [h1] at SS
    rcases or2 with ⟨h2, g2⟩ | ⟨v, h2, y1, y2, y3⟩
    · rw [h2] at SD
      exact near_small_zero_2 w ht i j k pm px zm zx sm sx dm dx a b c 0 0 A B C SA SB SC AD SU sanity_any xp SS SD (by omega) (by omega)
    · rw [h2] at SD
      exact near_small_zero_1 w ht i j k pm px zm zx sm sx dm dx a b c 0 v A B C SA SB SC AD SU sanity_any xp SS SD (by omega)
  · rw [h1] at SS
    rcases or2 with ⟨h2, g2⟩ | ⟨v, h2, y1, y2, y3⟩
    · rw [h2] at SD
      exact near_small_zero_3 w ht i j k pm px zm zx sm sx dm dx a b c u 0 A B C SA SB SC AD SU sanity_any xp SS SD (by omega)
    · rw [h2] at SD
      obtain ⟨wa, wb, wa', wb'⟩ := wraps ha hb
      have DD1 := distance_any u (a + b) _ (dbd u1 ha hb).1 rfl
      have DD2 := distance_any c (a + b) _ (dbd hc ha hb).1 rfl
      have DD3 := distance_any v (a - b) _ (dbd y1 ha hb).2 rfl
      have DD4 := distance_any c (a - b) _ (dbd hc ha hb).2 rfl
      have l1 := dists u2
      have l2 := dists y2
      by_cases ca : c = a + b
      · have es := u3 ca
        obtain ⟨rfl, rfl⟩ := Prod.mk.inj es
        by_cases cb : c = a - b
        · have ed := y3 cb
          obtain ⟨rfl, rfl⟩ := Prod.mk.inj ed
          rw [← ca] at DD1 DD2 l1
          rw [← cb] at DD3 DD4 l2
          exact near_small_zero_7 w ht c i j k pm px dm dx a b u v A B C SA SB SC AD SU sanity_any xp SS SD _ _ _ _ (wa.trans ca.symm) (wb.trans cb.symm) (wa'.trans ca.symm) (wb'.trans cb.symm) DD1 DD2 DD3 DD4 l1 l2
        · rw [← ca] at DD1 DD2 l1
          exact near_small_zero_5 w ht c (a - b) i j k pm px sm sx dm dx a b u v A B C SA SB SC AD SU sanity_any xp SS SD _ _ _ _ (wa.trans ca.symm) wb (wa'.trans ca.symm) wb' DD1 DD2 DD3 DD4 l1 l2 cb (by simpa using cb)
      · by_cases cb : c = a - b
        · have ed := y3 cb
          obtain ⟨rfl, rfl⟩ := Prod.mk.inj ed
          rw [← cb] at DD3 DD4 l2
          exact near_small_zero_6 w ht (a + b) c i j k pm px dm dx sm sx a b u v A B C SA SB SC AD SU sanity_any xp SS SD _ _ _ _ wa (wb.trans cb.symm) wa' (wb'.trans cb.symm) DD1 DD2 DD3 DD4 l1 l2 ca (by simpa using ca)
        · exact near_small_zero_4 w ht i j k pm px zm zx sm sx dm dx a b c u v A B C SA SB SC AD SU sanity_any xp SS SD _ _ _ _ (a + b) (a - b) wa wb wa' wb' DD1 DD2 DD3 DD4 l1 l2 ca cb (by simpa using ca) (by simpa using cb)
set_option maxHeartbeats 2000000 in
theorem fin_zero_small (w : World) (ht : Tb w) (i j k qm qx zm zx a b c : Int) (s d : (Int × Int) × Int) (A : Ret 56 #[.int .i64 i] (.agg #[.int .i64 0, .int .i64 0])) (B : Ret 56 #[.int .i64 j] (.agg #[.int .i64 qm, .int .i64 qx])) (C : Ret 56 #[.int .i64 k] (.agg #[.int .i64 zm, .int .i64 zx]))
    (SA : Ret 57 #[.agg #[.int .i64 0, .int .i64 0]] (.tuple #[.int .i64 a, .bool true])) (SB : Ret 57 #[.agg #[.int .i64 qm, .int .i64 qx]] (.tuple #[.int .i64 b, .bool true])) (SC : Ret 57 #[.agg #[.int .i64 zm, .int .i64 zx]] (.tuple #[.int .i64 c, .bool true])) (xq : ¬ qx > -24) 
    (N1 : Nr s (a + b) c zm zx) (N2 : Nr d (a - b) c zm zx)
    (AD : Ret 35 #[.agg #[.int .i64 0, .int .i64 0], .agg #[.int .i64 qm, .int .i64 qx]] (.tuple #[.agg #[.int .i64 s.1.1, .int .i64 s.1.2], .int .i64 s.2])) (SU : Ret 36 #[.agg #[.int .i64 0, .int .i64 0], .agg #[.int .i64 qm, .int .i64 qx]] (.tuple #[.agg #[.int .i64 d.1.1, .int .i64 d.1.2], .int .i64 d.2])) (ha : a.natAbs ≤ 1152921504606846976) (hb : b.natAbs ≤ 1152921504606846976) (hc : c.natAbs ≤ 4611686018427387904) :
    Calls Tryz.prog 10 #[.int .i64 i, .int .i64 j, .int .i64 k] w fun e w' => e = .returned (.bool true) ∧ Ext w w' := by
  obtain ⟨⟨sm, sx⟩, se⟩ := s
  obtain ⟨⟨dm, dx⟩, de⟩ := d
  obtain ⟨k1, v1, or1⟩ := N1
  obtain ⟨k2, v2, or2⟩ := N2
  simp only at *
  subst k1 k2
  have SS := scaled_any v1
  have SD := scaled_any v2
  rcases or1 with ⟨h1, g1⟩ | ⟨u, h1, u1, u2, u3⟩
  · rw [h1] at SS
    rcases or2 with ⟨h2, g2⟩ | ⟨v, h2, y1, y2, y3⟩
    · rw [h2] at SD
      exact near_zero_small_2 w ht i j k qm qx zm zx sm sx dm dx a b c 0 0 A B C SA SB SC AD SU sanity_any xq SS SD (by omega) (by omega)
    · rw [h2] at SD
      exact near_zero_small_1 w ht i j k qm qx zm zx sm sx dm dx a b c 0 v A B C SA SB SC AD SU sanity_any xq SS SD (by omega)
  · rw [h1] at SS
    rcases or2 with ⟨h2, g2⟩ | ⟨v, h2, y1, y2, y3⟩
    · rw [h2] at SD
      exact near_zero_small_3 w ht i j k qm qx zm zx sm sx dm dx a b c u 0 A B C SA SB SC AD SU sanity_any xq SS SD (by omega)
    · rw [h2] at SD
      obtain ⟨wa, wb, wa', wb'⟩ := wraps ha hb
      have DD1 := distance_any u (a + b) _ (dbd u1 ha hb).1 rfl
      have DD2 := distance_any c (a + b) _ (dbd hc ha hb).1 rfl
      have DD3 := distance_any v (a - b) _ (dbd y1 ha hb).2 rfl
      have DD4 := distance_any c (a - b) _ (dbd hc ha hb).2 rfl
      have l1 := dists u2
      have l2 := dists y2
      by_cases ca : c = a + b
      · have es := u3 ca
        obtain ⟨rfl, rfl⟩ := Prod.mk.inj es
        by_cases cb : c = a - b
        · have ed := y3 cb
          obtain ⟨rfl, rfl⟩ := Prod.mk.inj ed
          rw [← ca] at DD1 DD2 l1
          rw [← cb] at DD3 DD4 l2
          exact near_zero_small_7 w ht c i j k qm qx dm dx a b u v A B C SA SB SC AD SU sanity_any xq SS SD _ _ _ _ (wa.trans ca.symm) (wb.trans cb.symm) (wa'.trans ca.symm) (wb'.trans cb.symm) DD1 DD2 DD3 DD4 l1 l2
        · rw [← ca] at DD1 DD2 l1
          exact near_zero_small_5 w ht c (a - b) i j k qm qx sm sx dm dx a b u v A B C SA SB SC AD SU sanity_any xq SS SD _ _ _ _ (wa.trans ca.symm) wb (wa'.trans ca.symm) wb' DD1 DD2 DD3 DD4 l1 l2 cb (by simpa using cb)
      · by_cases cb : c = a - b
        · have ed := y3 cb
          obtain ⟨rfl, rfl⟩ := Prod.mk.inj ed
          rw [← cb] at DD3 DD4 l2
          exact near_zero_small_6 w ht (a + b) c i j k qm qx dm dx sm sx a b u v A B C SA SB SC AD SU sanity_any xq SS SD _ _ _ _ wa (wb.trans cb.symm) wa' (wb'.trans cb.symm) DD1 DD2 DD3 DD4 l1 l2 ca (by simpa using ca)
        · exact near_zero_small_4 w ht i j k qm qx zm zx sm sx dm dx a b c u v A B C SA SB SC AD SU sanity_any xq SS SD _ _ _ _ (a + b) (a - b) wa wb wa' wb' DD1 DD2 DD3 DD4 l1 l2 ca cb (by simpa using ca) (by simpa using cb)
set_option maxHeartbeats 2000000 in
theorem fin_zero_zero (w : World) (ht : Tb w) (i j k  zm zx a b c : Int) (s d : (Int × Int) × Int) (A : Ret 56 #[.int .i64 i] (.agg #[.int .i64 0, .int .i64 0])) (B : Ret 56 #[.int .i64 j] (.agg #[.int .i64 0, .int .i64 0])) (C : Ret 56 #[.int .i64 k] (.agg #[.int .i64 zm, .int .i64 zx]))
    (SA : Ret 57 #[.agg #[.int .i64 0, .int .i64 0]] (.tuple #[.int .i64 a, .bool true])) (SB : Ret 57 #[.agg #[.int .i64 0, .int .i64 0]] (.tuple #[.int .i64 b, .bool true])) (SC : Ret 57 #[.agg #[.int .i64 zm, .int .i64 zx]] (.tuple #[.int .i64 c, .bool true])) 
    (N1 : Nr s (a + b) c zm zx) (N2 : Nr d (a - b) c zm zx)
    (AD : Ret 35 #[.agg #[.int .i64 0, .int .i64 0], .agg #[.int .i64 0, .int .i64 0]] (.tuple #[.agg #[.int .i64 s.1.1, .int .i64 s.1.2], .int .i64 s.2])) (SU : Ret 36 #[.agg #[.int .i64 0, .int .i64 0], .agg #[.int .i64 0, .int .i64 0]] (.tuple #[.agg #[.int .i64 d.1.1, .int .i64 d.1.2], .int .i64 d.2])) (ha : a.natAbs ≤ 1152921504606846976) (hb : b.natAbs ≤ 1152921504606846976) (hc : c.natAbs ≤ 4611686018427387904) :
    Calls Tryz.prog 10 #[.int .i64 i, .int .i64 j, .int .i64 k] w fun e w' => e = .returned (.bool true) ∧ Ext w w' := by
  obtain ⟨⟨sm, sx⟩, se⟩ := s
  obtain ⟨⟨dm, dx⟩, de⟩ := d
  obtain ⟨k1, v1, or1⟩ := N1
  obtain ⟨k2, v2, or2⟩ := N2
  simp only at *
  subst k1 k2
  have SS := scaled_any v1
  have SD := scaled_any v2
  rcases or1 with ⟨h1, g1⟩ | ⟨u, h1, u1, u2, u3⟩
  · rw [h1] at SS
    rcases or2 with ⟨h2, g2⟩ | ⟨v, h2, y1, y2, y3⟩
    · rw [h2] at SD
      exact near_zero_zero_2 w ht i j k  zm zx sm sx dm dx a b c 0 0 A B C SA SB SC AD SU sanity_any  SS SD (by omega) (by omega)
    · rw [h2] at SD
      exact near_zero_zero_1 w ht i j k  zm zx sm sx dm dx a b c 0 v A B C SA SB SC AD SU sanity_any  SS SD (by omega)
  · rw [h1] at SS
    rcases or2 with ⟨h2, g2⟩ | ⟨v, h2, y1, y2, y3⟩
    · rw [h2] at SD
      exact near_zero_zero_3 w ht i j k  zm zx sm sx dm dx a b c u 0 A B C SA SB SC AD SU sanity_any  SS SD (by omega)
    · rw [h2] at SD
      obtain ⟨wa, wb, wa', wb'⟩ := wraps ha hb
      have DD1 := distance_any u (a + b) _ (dbd u1 ha hb).1 rfl
      have DD2 := distance_any c (a + b) _ (dbd hc ha hb).1 rfl
      have DD3 := distance_any v (a - b) _ (dbd y1 ha hb).2 rfl
      have DD4 := distance_any c (a - b) _ (dbd hc ha hb).2 rfl
      have l1 := dists u2
      have l2 := dists y2
      by_cases ca : c = a + b
      · have es := u3 ca
        obtain ⟨rfl, rfl⟩ := Prod.mk.inj es
        by_cases cb : c = a - b
        · have ed := y3 cb
          obtain ⟨rfl, rfl⟩ := Prod.mk.inj ed
          rw [← ca] at DD1 DD2 l1
          rw [← cb] at DD3 DD4 l2
          exact near_zero_zero_7 w ht c i j k  dm dx a b u v A B C SA SB SC AD SU sanity_any  SS SD _ _ _ _ (wa.trans ca.symm) (wb.trans cb.symm) (wa'.trans ca.symm) (wb'.trans cb.symm) DD1 DD2 DD3 DD4 l1 l2
        · rw [← ca] at DD1 DD2 l1
          exact near_zero_zero_5 w ht c (a - b) i j k  sm sx dm dx a b u v A B C SA SB SC AD SU sanity_any  SS SD _ _ _ _ (wa.trans ca.symm) wb (wa'.trans ca.symm) wb' DD1 DD2 DD3 DD4 l1 l2 cb (by simpa using cb)
      · by_cases cb : c = a - b
        · have ed := y3 cb
          obtain ⟨rfl, rfl⟩ := Prod.mk.inj ed
          rw [← cb] at DD3 DD4 l2
          exact near_zero_zero_6 w ht (a + b) c i j k  dm dx sm sx a b u v A B C SA SB SC AD SU sanity_any  SS SD _ _ _ _ wa (wb.trans cb.symm) wa' (wb'.trans cb.symm) DD1 DD2 DD3 DD4 l1 l2 ca (by simpa using ca)
        · exact near_zero_zero_4 w ht i j k  zm zx sm sx dm dx a b c u v A B C SA SB SC AD SU sanity_any  SS SD _ _ _ _ (a + b) (a - b) wa wb wa' wb' DD1 DD2 DD3 DD4 l1 l2 ca cb (by simpa using ca) (by simpa using cb)
theorem walk (a0 : Int) (w0 : (Lit.int .i64 a0).wf = true) (a1 : Int) (w1 : (Lit.int .i64 a1).wf = true) (a2 : Int) (w2 : (Lit.int .i64 a2).wf = true) (w : World) (ht : Tb w) :
    Calls Tryz.prog 10 #[.int .i64 a0, .int .i64 a1, .int .i64 a2] w fun e w' => e = .returned (.bool true) ∧ Ext w w' := by
  obtain ⟨pm, px, hp, A⟩ := at_vd w0
  obtain ⟨qm, qx, hq, B⟩ := at_vd w1
  obtain ⟨zm, zx, hz, C⟩ := at_vd w2
  have SA := scaled_any hp
  have SB := scaled_any hq
  have SC := scaled_any hz
  have AD : Ret 35 #[.agg #[.int .i64 pm, .int .i64 px], .agg #[.int .i64 qm, .int .i64 qx]] _ := Add_vd pm px qm qx
  have SU : Ret 36 #[.agg #[.int .i64 pm, .int .i64 px], .agg #[.int .i64 qm, .int .i64 qx]] _ := sub_real pm px qm qx
  cases e1 : scaledV pm px with | mk a o1 => ?_
  cases e2 : scaledV qm qx with | mk b o2 => ?_
  cases e3 : scaledV zm zx with | mk c o3 => ?_
  rw [e1] at SA; rw [e2] at SB; rw [e3] at SC
  simp only at SA SB SC
  cases o1 with
  | false => exact near_o1 w ht o2 o3 a0 a1 a2 pm px qm qx zm zx _ _ _ _ a b c 0 0 A B C SA SB SC _ _ AD SU sanity_any
  | true =>
  cases o2 with
  | false => exact near_o2 w ht o3 a0 a1 a2 pm px qm qx zm zx _ _ _ _ a b c 0 0 A B C SA SB SC _ _ AD SU sanity_any
  | true =>
  cases o3 with
  | false => exact near_o3 w ht a0 a1 a2 pm px qm qx zm zx _ _ _ _ a b c 0 0 A B C SA SB SC _ _ AD SU sanity_any
  | true =>
  have hc := (scaled_true hz e3).2.1
  by_cases p0 : pm = 0
  · obtain rfl : px = 0 := hp.2.2.2.1 p0
    subst p0
    have ha := (scaled_true hp e1).2.2 (fun h => absurd rfl h)
    by_cases q0 : qm = 0
    · obtain rfl : qx = 0 := hq.2.2.2.1 q0
      subst q0
      have hb := (scaled_true hq e2).2.2 (fun h => absurd rfl h)
      obtain ⟨N1, N2⟩ := near_add hp hq hz e1 e2 e3 (fun h => absurd rfl h) (fun h => absurd rfl h)
      exact fin_zero_zero w ht a0 a1 a2 zm zx a b c _ _ A B C SA SB SC N1 N2 AD SU ha hb hc
    · by_cases q1 : qx > -24
      · exact near_q2 w ht a0 a1 a2 qm qx zm zx _ _ _ _ a b c 0 0 A B C SA SB SC _ _ AD SU sanity_any q1 (by simpa using q0) q0
      · have hb := (scaled_true hq e2).2.2 (fun _ => by omega)
        obtain ⟨N1, N2⟩ := near_add hp hq hz e1 e2 e3 (fun h => absurd rfl h) (fun _ => by omega)
        exact fin_zero_small w ht a0 a1 a2 qm qx zm zx a b c _ _ A B C SA SB SC q1 N1 N2 AD SU ha hb hc
  · by_cases p1 : px > -24
    · exact near_p w ht a0 a1 a2 pm px qm qx zm zx _ _ _ _ a b c 0 0 A B C SA SB SC _ _ AD SU sanity_any p1 (by simpa using p0) p0
    · have ha := (scaled_true hp e1).2.2 (fun _ => by omega)
      by_cases q0 : qm = 0
      · obtain rfl : qx = 0 := hq.2.2.2.1 q0
        subst q0
        have hb := (scaled_true hq e2).2.2 (fun h => absurd rfl h)
        obtain ⟨N1, N2⟩ := near_add hp hq hz e1 e2 e3 (fun _ => by omega) (fun h => absurd rfl h)
        exact fin_small_zero w ht a0 a1 a2 pm px zm zx a b c _ _ A B C SA SB SC p1 N1 N2 AD SU ha hb hc
      · by_cases q1 : qx > -24
        · exact near_q1 w ht a0 a1 a2 pm px qm qx zm zx _ _ _ _ a b c 0 0 A B C SA SB SC _ _ AD SU sanity_any p1 q1 (by simpa using q0) q0
        · have hb := (scaled_true hq e2).2.2 (fun _ => by omega)
          obtain ⟨N1, N2⟩ := near_add hp hq hz e1 e2 e3 (fun _ => by omega) (fun _ => by omega)
          exact fin_small_small w ht a0 a1 a2 pm px qm qx zm zx a b c _ _ A B C SA SB SC p1 q1 N1 N2 AD SU ha hb hc
end Go.Proofs.YtehmpffffjcloaaGreatDoor.realNearest
