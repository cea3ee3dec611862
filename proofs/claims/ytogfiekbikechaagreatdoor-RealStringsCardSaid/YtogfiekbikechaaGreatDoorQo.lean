/- Layer 2: the reference's split of a numeric string, walked. -/
import Derived.Test.YtogfiekbikechaaGreatDoorQn
import Derived.Test.YtogfiekbikechaaGreatDoorGr
import Derived.Deep.CutRange
namespace Go.Proofs.YtogfiekbikechaaGreatDoor
open Go.ChangeShapes Go.WideShapes Go.ChangeAt Go.RowKit

/-- The parts of a numeric string in a block. -/
structure Nm (u : World) (b : Nat) (v0 v1 v2 v3 v4 v5 : Value) : Prop where
  c0 : u.cell? ⟨b, 0, none⟩ = some v0
  c1 : u.cell? ⟨b, 1, none⟩ = some v1
  c2 : u.cell? ⟨b, 2, none⟩ = some v2
  c3 : u.cell? ⟨b, 3, none⟩ = some v3
  c4 : u.cell? ⟨b, 4, none⟩ = some v4
  c5 : u.cell? ⟨b, 5, none⟩ = some v5
  fz : ∀ j, u.frozen? ⟨b, j, none⟩ = false
theorem Nm.lt {u : World} {b : Nat} {v0 v1 v2 v3 v4 v5 : Value} (h : Nm u b v0 v1 v2 v3 v4 v5) : b < u.heap.size := World.block_lt_of_cell? u _ h.c0
theorem Nm.later {u u' : World} {b : Nat} {v0 v1 v2 v3 v4 v5 : Value} (h : Nm u b v0 v1 v2 v3 v4 v5) (hx : Ext u u') : Nm u' b v0 v1 v2 v3 v4 v5 :=
  ⟨(hx.cell 0 h.lt).trans h.c0, (hx.cell 1 h.lt).trans h.c1, (hx.cell 2 h.lt).trans h.c2, (hx.cell 3 h.lt).trans h.c3, (hx.cell 4 h.lt).trans h.c4, (hx.cell 5 h.lt).trans h.c5, fun j => (hx.froz j h.lt).trans (h.fz j)⟩
theorem cell_aside {w : World} {b b' p q : Nat} {v : Value} (h : b' ≠ b ∨ q ≠ p) : (w.setCell ⟨b, p, none⟩ v).cell? ⟨b', q, none⟩ = w.cell? ⟨b', q, none⟩ := by
  apply World.cell?_setCell_other; intro e2; injection e2 with e1 e3 _; rcases h with h | h
  · exact h e1.symm
  · exact h e3.symm
theorem Nm.aside {u : World} {b b' p : Nat} {v v0 v1 v2 v3 v4 v5 : Value} (h : Nm u b v0 v1 v2 v3 v4 v5) (hn : b ≠ b') : Nm (u.setCell ⟨b', p, none⟩ v) b v0 v1 v2 v3 v4 v5 :=
  ⟨(cell_aside (.inl hn)).trans h.c0, (cell_aside (.inl hn)).trans h.c1, (cell_aside (.inl hn)).trans h.c2, (cell_aside (.inl hn)).trans h.c3, (cell_aside (.inl hn)).trans h.c4, (cell_aside (.inl hn)).trans h.c5, fun j => by rw [World.frozen?_setCell]; exact h.fz j⟩
theorem Nm.set0 {u : World} {b : Nat} {v0 v1 v2 v3 v4 v5 : Value} (h : Nm u b v0 v1 v2 v3 v4 v5) (v : Value) : Nm (u.setCell ⟨b, 0, none⟩ v) b v v1 v2 v3 v4 v5 :=
  ⟨World.cell?_setCell_same' _ _ _ (by rw [h.c0]; rfl), (cell_aside (.inr (by decide))).trans h.c1, (cell_aside (.inr (by decide))).trans h.c2, (cell_aside (.inr (by decide))).trans h.c3, (cell_aside (.inr (by decide))).trans h.c4, (cell_aside (.inr (by decide))).trans h.c5, fun j => by rw [World.frozen?_setCell]; exact h.fz j⟩
theorem Nm.set1 {u : World} {b : Nat} {v0 v1 v2 v3 v4 v5 : Value} (h : Nm u b v0 v1 v2 v3 v4 v5) (v : Value) : Nm (u.setCell ⟨b, 1, none⟩ v) b v0 v v2 v3 v4 v5 :=
  ⟨(cell_aside (.inr (by decide))).trans h.c0, World.cell?_setCell_same' _ _ _ (by rw [h.c1]; rfl), (cell_aside (.inr (by decide))).trans h.c2, (cell_aside (.inr (by decide))).trans h.c3, (cell_aside (.inr (by decide))).trans h.c4, (cell_aside (.inr (by decide))).trans h.c5, fun j => by rw [World.frozen?_setCell]; exact h.fz j⟩
theorem Nm.set2 {u : World} {b : Nat} {v0 v1 v2 v3 v4 v5 : Value} (h : Nm u b v0 v1 v2 v3 v4 v5) (v : Value) : Nm (u.setCell ⟨b, 2, none⟩ v) b v0 v1 v v3 v4 v5 :=
  ⟨(cell_aside (.inr (by decide))).trans h.c0, (cell_aside (.inr (by decide))).trans h.c1, World.cell?_setCell_same' _ _ _ (by rw [h.c2]; rfl), (cell_aside (.inr (by decide))).trans h.c3, (cell_aside (.inr (by decide))).trans h.c4, (cell_aside (.inr (by decide))).trans h.c5, fun j => by rw [World.frozen?_setCell]; exact h.fz j⟩
theorem Nm.set3 {u : World} {b : Nat} {v0 v1 v2 v3 v4 v5 : Value} (h : Nm u b v0 v1 v2 v3 v4 v5) (v : Value) : Nm (u.setCell ⟨b, 3, none⟩ v) b v0 v1 v2 v v4 v5 :=
  ⟨(cell_aside (.inr (by decide))).trans h.c0, (cell_aside (.inr (by decide))).trans h.c1, (cell_aside (.inr (by decide))).trans h.c2, World.cell?_setCell_same' _ _ _ (by rw [h.c3]; rfl), (cell_aside (.inr (by decide))).trans h.c4, (cell_aside (.inr (by decide))).trans h.c5, fun j => by rw [World.frozen?_setCell]; exact h.fz j⟩
theorem Nm.set4 {u : World} {b : Nat} {v0 v1 v2 v3 v4 v5 : Value} (h : Nm u b v0 v1 v2 v3 v4 v5) (v : Value) : Nm (u.setCell ⟨b, 4, none⟩ v) b v0 v1 v2 v3 v v5 :=
  ⟨(cell_aside (.inr (by decide))).trans h.c0, (cell_aside (.inr (by decide))).trans h.c1, (cell_aside (.inr (by decide))).trans h.c2, (cell_aside (.inr (by decide))).trans h.c3, World.cell?_setCell_same' _ _ _ (by rw [h.c4]; rfl), (cell_aside (.inr (by decide))).trans h.c5, fun j => by rw [World.frozen?_setCell]; exact h.fz j⟩
theorem Nm.set5 {u : World} {b : Nat} {v0 v1 v2 v3 v4 v5 : Value} (h : Nm u b v0 v1 v2 v3 v4 v5) (v : Value) : Nm (u.setCell ⟨b, 5, none⟩ v) b v0 v1 v2 v3 v4 v :=
  ⟨(cell_aside (.inr (by decide))).trans h.c0, (cell_aside (.inr (by decide))).trans h.c1, (cell_aside (.inr (by decide))).trans h.c2, (cell_aside (.inr (by decide))).trans h.c3, (cell_aside (.inr (by decide))).trans h.c4, World.cell?_setCell_same' _ _ _ (by rw [h.c5]; rfl), fun j => by rw [World.frozen?_setCell]; exact h.fz j⟩
theorem nm_new (w : World) : Nm (w.alloc (.cells #[.bool false, .string ⟨#[]⟩, .int .i64 0, .bool false, .string ⟨#[]⟩, .bool false] 94)) w.heap.size (.bool false) (.string ⟨#[]⟩) (.int .i64 0) (.bool false) (.string ⟨#[]⟩) (.bool false) := ⟨by simp [go_sem], by simp [go_sem], by simp [go_sem], by simp [go_sem], by simp [go_sem], by simp [go_sem], fun j => by simp [go_sem]⟩
/-- What split says of a string. -/
structure SplitGood (l : List UInt8) (mi : Bool) (D : ByteArray) (af : Nat) (le : Bool) (E : ByteArray) : Prop where
  d : D.data.toList.all isDg = true
  dl : D.size ≤ 60
  e : E.data.toList.all isDg = true
  el : E.size ≤ 60
  al : af ≤ 60
  val : readV l = some (numOf mi D.data.toList (-(af : Int) + expT le E.data.toList))
def SplitTo (e : Ending) (l : List UInt8) : Prop := ∃ (mi : Bool) (D : ByteArray) (af : Nat) (le : Bool) (E : ByteArray) (ok : Bool), e = .returned (.agg #[.bool mi, .string D, .int .i64 (af : Int), .bool le, .string E, .bool ok]) ∧ (ok = false → readV l = none) ∧ (ok = true → SplitGood l mi D af le E)
theorem split_bad {l : List UInt8} (h : readV l = none) : SplitTo (.returned (.agg #[.bool false, .string ⟨#[]⟩, .int .i64 0, .bool false, .string ⟨#[]⟩, .bool false])) l := ⟨false, ⟨#[]⟩, 0, false, ⟨#[]⟩, false, rfl, fun _ => h, fun c => by cases c⟩
theorem sign_any (s : ByteArray) : ∃ (mi : Bool) (a : Nat), a ≤ s.size ∧ cut1 45 s.data.toList = (s.data.toList.drop a, mi) ∧ ((mi = true ∧ a = 1 ∧ ∃ _ : 0 < s.size, s[0] = 45) ∨ (mi = false ∧ a = 0 ∧ ∃ _ : 0 < s.size, s[0] ≠ 45) ∨ (mi = false ∧ a = 0 ∧ ¬ 0 < s.size)) := by
  have := cut_cases s 0 45
  rw [List.drop_zero] at this
  rcases this with ⟨h, e, c⟩ | ⟨h, e, c⟩ | ⟨h, c⟩
  · exact ⟨true, 1, h, c, .inl ⟨rfl, rfl, h, e⟩⟩
  · exact ⟨false, 0, Nat.zero_le _, c, .inr (.inl ⟨rfl, rfl, h, e⟩)⟩
  · exact ⟨false, 0, Nat.zero_le _, c, .inr (.inr ⟨rfl, rfl, h⟩)⟩
/-- Whether a byte c is at place k. -/
def isAt (s : ByteArray) (k : Nat) (c : UInt8) : Bool := (cut1 c (s.data.toList.drop k)).2
theorem is_at (s : ByteArray) (k : Nat) (c : UInt8) : (isAt s k c = true ∧ cut1 c (s.data.toList.drop k) = (s.data.toList.drop (k + 1), true) ∧ ∃ _ : k < s.size, s[k] = c) ∨ (isAt s k c = false ∧ cut1 c (s.data.toList.drop k) = (s.data.toList.drop k, false) ∧ ((∃ _ : k < s.size, s[k] ≠ c) ∨ ¬ k < s.size)) := by
  rcases cut_cases s k c with ⟨h, e, q⟩ | ⟨h, e, q⟩ | ⟨h, q⟩
  · exact .inl ⟨by unfold isAt; rw [q], q, h, e⟩
  · exact .inr ⟨by unfold isAt; rw [q], q, .inl ⟨h, e⟩⟩
  · exact .inr ⟨by unfold isAt; rw [q], q, .inr h⟩
theorem sgn_any (s : ByteArray) (k : Nat) (hk : k ≤ s.size) : ∃ (le : Bool) (a : Nat), a ≤ s.size ∧ Sgn s.data.toList k a le ∧ ((le = true ∧ a = k + 1 ∧ ∃ _ : k < s.size, s[k] = 45) ∨ (le = false ∧ a = k + 1 ∧ ∃ _ : k < s.size, s[k] = 43) ∨ (le = false ∧ a = k ∧ ∃ _ : k < s.size, s[k] ≠ 45 ∧ s[k] ≠ 43) ∨ (le = false ∧ a = k ∧ ¬ k < s.size)) := by
  rcases cut_cases s k 45 with ⟨h, e, q⟩ | ⟨h, e, q⟩ | ⟨h, q⟩
  · exact ⟨true, k + 1, h, ⟨by rw [q], by rw [q]; rfl⟩, .inl ⟨rfl, rfl, h, e⟩⟩
  · rcases cut_cases s k 43 with ⟨h', e', q'⟩ | ⟨h', e', q'⟩ | ⟨h', q'⟩
    · exact ⟨false, k + 1, h, ⟨by rw [q], by rw [q, q']; rfl⟩, .inr (.inl ⟨rfl, rfl, h, e'⟩)⟩
    · exact ⟨false, k, hk, ⟨by rw [q], by rw [q, q']; rfl⟩, .inr (.inr (.inl ⟨rfl, rfl, h, e, e'⟩))⟩
    · exact absurd h h'
  · rcases cut_cases s k 43 with ⟨h', e', q'⟩ | ⟨h', e', q'⟩ | ⟨h', q'⟩
    · exact absurd h' h
    · exact absurd h' h
    · exact ⟨false, k, hk, ⟨by rw [q], by rw [q, q']; rfl⟩, .inr (.inr (.inr ⟨rfl, rfl, h⟩))⟩
theorem sub_two {e a f : Nat} (h : e = a + 1 + f) (hb : e ≤ 100) : ∃ q : Nat, wrap64 ((e : Int) - a) = (q : Int) ∧ IntKind.i64.wrap ((e : Int) - a) = (q : Int) ∧ wrap64 ((q : Int) - 1) = (f : Int) ∧ IntKind.i64.wrap ((q : Int) - 1) = (f : Int) :=
  ⟨f + 1, by unfold wrap64; omega, by rw [IntWalk.i64_in _ ⟨by omega, by omega⟩]; omega, by unfold wrap64; omega, by rw [IntWalk.i64_in _ ⟨by omega, by omega⟩]; omega⟩
theorem int_ne {a b : Nat} (h : a ≠ b) : ((a : Int) == (b : Int)) = false ∧ ¬ (a : Int) = (b : Int) ∧ ¬ a = b ∧ (a == b) = false := ⟨by simp; omega, by omega, h, by simpa using h⟩
theorem app_all {D F : ByteArray} (h : D.data.toList.all isDg = true) (k : F.data.toList.all isDg = true) : (D ++ F).data.toList.all isDg = true := by
  rw [bs_of D, bs_of F, bs_append, bs_list, List.all_append, h, k]; rfl
theorem app_list (D F : ByteArray) : (D ++ F).data.toList = D.data.toList ++ F.data.toList := by
  rw [bs_of D, bs_of F, bs_append, bs_list]; rfl
theorem app_size (D F : ByteArray) : (D ++ F).size = D.size + F.size := by simp
theorem drop_end (s : ByteArray) (a : Nat) : s.data.toList.drop a = [] ↔ s.size ≤ a := by
  have : s.data.toList.length = s.size := by simp
  rw [List.drop_eq_nil_iff, this]
set_option maxRecDepth 100000 in
set_option maxHeartbeats 4000000 in
theorem split_long (s : ByteArray) (h : (s.size : Int) > 60) (_hb : s.size ≤ 1000) (w : World) : Calls Tryz.prog 85 #[.string s] w fun e w' => e = .returned (.agg #[.bool false, .string ⟨#[]⟩, .int .i64 0, .bool false, .string ⟨#[]⟩, .bool false]) ∧ Ext w w' := by
  have N := Lib.hid (nm_new w)
  go_enter Tryz.func85, Tryz.ntmps85
  have z0 := N.out.c0; have z1 := N.out.c1; have z2 := N.out.c2; have z3 := N.out.c3; have z4 := N.out.c4; have z5 := N.out.c5; have zf := N.out.fz
  have X := Lib.hid ((Ext.refl w).alloc (.cells #[.bool false, .string ⟨#[]⟩, .int .i64 0, .bool false, .string ⟨#[]⟩, .bool false] 94))
  go_wp2
  refine bodyPost_ret (v := .agg #[.bool false, .string ⟨#[]⟩, .int .i64 0, .bool false, .string ⟨#[]⟩, .bool false]) ?_ rfl ⟨rfl, ?_⟩
  · simp [results, Tryz.results85, go_sem]
  · repeat (first | with_reducible exact X.out | with_reducible refine Ext.setCell ?_ (by simp) _)
set_option maxRecDepth 100000 in
set_option maxHeartbeats 4000000 in
theorem split_walk (s : ByteArray) (hs : s.size ≤ 60) (w : World) : Calls Tryz.prog 85 #[.string s] w fun e w' => SplitTo e s.data.toList ∧ Ext w w' := by
  have hl : s.data.toList.length ≤ 60 := by rw [show s.data.toList.length = s.size by simp]; exact hs
  have HS := Lib.hid hs; have HL := Lib.hid hl; clear hl
  have g0 : ¬ (s.size : Int) > 60 := by omega
  have gs : s.size ≤ 1000 := by omega
  clear hs
  go_enter Tryz.func85, Tryz.ntmps85
  go_upto_region 5 with (fail)
  have X0 : Hid (Ext w ((w.alloc (.cells #[.bool false, .string ⟨#[]⟩, .int .i64 0, .bool false, .string ⟨#[]⟩, .bool false] 94)).alloc (.cells #[.bool false, .string ⟨#[]⟩, .int .i64 0, .bool false, .string ⟨#[]⟩, .bool false] 94))) := Lib.hid (((Ext.refl w).alloc _).alloc _)
  have N2 : Hid (Nm ((w.alloc (.cells #[.bool false, .string ⟨#[]⟩, .int .i64 0, .bool false, .string ⟨#[]⟩, .bool false] 94)).alloc (.cells #[.bool false, .string ⟨#[]⟩, .int .i64 0, .bool false, .string ⟨#[]⟩, .bool false] 94)) w.heap.size (.bool false) (.string ⟨#[]⟩) (.int .i64 0) (.bool false) (.string ⟨#[]⟩) (.bool false)) := Lib.hid ((nm_new w).later ((Ext.refl _).alloc _))
  have N3 : Hid (Nm ((w.alloc (.cells #[.bool false, .string ⟨#[]⟩, .int .i64 0, .bool false, .string ⟨#[]⟩, .bool false] 94)).alloc (.cells #[.bool false, .string ⟨#[]⟩, .int .i64 0, .bool false, .string ⟨#[]⟩, .bool false] 94)) (w.heap.size + 1) (.bool false) (.string ⟨#[]⟩) (.int .i64 0) (.bool false) (.string ⟨#[]⟩) (.bool false)) := Lib.hid (by have := nm_new (w.alloc (.cells #[.bool false, .string ⟨#[]⟩, .int .i64 0, .bool false, .string ⟨#[]⟩, .bool false] 94)); rwa [show (w.alloc (.cells #[.bool false, .string ⟨#[]⟩, .int .i64 0, .bool false, .string ⟨#[]⟩, .bool false] 94)).heap.size = w.heap.size + 1 by simp [go_sem]] at this)
  generalize (w.alloc (.cells #[.bool false, .string ⟨#[]⟩, .int .i64 0, .bool false, .string ⟨#[]⟩, .bool false] 94)).alloc (.cells #[.bool false, .string ⟨#[]⟩, .int .i64 0, .bool false, .string ⟨#[]⟩, .bool false] 94) = W0 at *
  have NE : w.heap.size ≠ w.heap.size + 1 := by omega
  have HNE := Lib.hid NE; clear NE
  obtain ⟨mi, a, ha, hcut, hway⟩ := sign_any s
  have HA := Lib.hid ha; have HCUT := Lib.hid hcut; have HWAY := Lib.hid hway
  clear ha hcut hway
  go_cut [17] from 6 (fun x wx => x = .bool mi ∧ wx = W0)
  case first =>
    rcases HWAY.out with ⟨rfl, rfl, hlt, hb⟩ | ⟨rfl, rfl, hlt, hb⟩ | ⟨rfl, rfl, hlt⟩
    · have g1 := byte_is (n := 45) rfl hb
      have g2 : (s.size : Int) > 0 := by omega
      go_wp2_with fail; go_meet; exact ⟨rfl, rfl⟩
    · have g1 := byte_not (n := 45) rfl hb
      have g2 : (s.size : Int) > 0 := by omega
      go_wp2_with fail; go_meet; exact ⟨rfl, rfl⟩
    · have g2 : ¬ (s.size : Int) > 0 := by omega
      go_wp2_with fail; go_meet; exact ⟨rfl, rfl⟩
  case rest =>
    obtain ⟨rfl, hw⟩ := hcut
    subst hw
    go_upto_if 17 with (fail)
    go_cut [4] from 6 (fun x wx => x = .int .i64 (a : Int) ∧ Hid (Nm wx (w.heap.size + 1) (.bool mi) (.string ⟨#[]⟩) (.int .i64 (0 : Int)) (.bool false) (.string ⟨#[]⟩) (.bool false)) ∧ Hid (Nm wx w.heap.size (.bool false) (.string ⟨#[]⟩) (.int .i64 0) (.bool false) (.string ⟨#[]⟩) (.bool false)) ∧ Hid (Ext w wx))
    case first =>
      rcases HWAY.out with ⟨rfl, rfl, hlt, hb⟩ | ⟨rfl, rfl, _⟩ | ⟨rfl, rfl, _⟩
      · have n0 := N3.out.c0; have nf := N3.out.fz
        have M3 := Lib.hid (N3.out.set0 (.bool true)); have M2 := Lib.hid (N2.out.aside (p := 0) (v := .bool true) HNE.out)
        have M1 := Lib.hid (X0.out.setCell (p := ⟨w.heap.size + 1, 0, none⟩) (Nat.le_succ _) (.bool true))
        go_wp2_with fail; go_meet; exact ⟨rfl, M3, M2, M1⟩
      · go_wp2_with fail; go_meet; exact ⟨rfl, N3, N2, X0⟩
      · go_wp2_with fail; go_meet; exact ⟨rfl, N3, N2, X0⟩
    case rest =>
      obtain ⟨rfl, P3, P2, PX⟩ := hcut
      clear N2 N3 X0 HWAY
      obtain ⟨e1, D, G⟩ := dgs_at s a HA.out
      have HG := Lib.hid G
      have DC := Lib.hid (rdigits_any s a e1 (by have := HS.out; omega) HA.out G.sum)
      clear G
      go_wp2_with fail
      refine (DC.out _).mono ?_
      rintro x w1 ⟨rfl, hx⟩
      have Q3 := Lib.hid (P3.out.later hx); have Q2 := Lib.hid (P2.out.later hx); have QX := Lib.hid (PX.out.trans hx)
      clear hx P3 P2 PX DC
      by_cases hd : e1 = a
      · subst hd

        have z0 := Q2.out.c0; have z1 := Q2.out.c1; have z2 := Q2.out.c2; have z3 := Q2.out.c3; have z4 := Q2.out.c4; have z5 := Q2.out.c5; have zf := Q2.out.fz
        have BAD := Lib.hid (split_bad (read_bad HL.out HCUT.out (HG.out.none.1 rfl)))
        go_wp2
        refine bodyPost_ret (v := .agg #[.bool false, .string ⟨#[]⟩, .int .i64 0, .bool false, .string ⟨#[]⟩, .bool false]) ?_ rfl ⟨BAD.out, ?_⟩
        · simp [results, Tryz.results85, go_sem, z0, z1, z2, z3, z4, z5]
        · repeat (first | with_reducible exact QX.out | with_reducible refine Ext.setCell ?_ (by simp) _)
      · obtain ⟨y1, y2, y3, y4⟩ := int_ne hd
        have HD := Lib.hid hd
        have gx := HG.out.ex; have gl : (a : Int) ≤ (e1 : Int) := Int.ofNat_le.2 HG.out.ge; have gh : (e1 : Int) ≤ (s.size : Int) := Int.ofNat_le.2 HG.out.le
        have gl2 := HG.out.ge; have gh2 := HG.out.le
        have n1 := Q3.out.c1; have nf := Q3.out.fz
        have R3 := Lib.hid (Q3.out.set1 (.string D)); have R2 := Lib.hid (Q2.out.aside (p := 1) (v := .string D) HNE.out)
        have RX := Lib.hid (QX.out.setCell (p := ⟨w.heap.size + 1, 1, none⟩) (Nat.le_succ _) (.string D))
        clear hd
        go_upto_region 13 with (fail)
        clear y1 y2 y3 y4 n1 nf gx gl gh gl2 gh2 Q3 Q2 QX
        generalize w1.setCell ⟨w.heap.size + 1, 1, none⟩ (.string D) = W2 at *
        have HDN : Hid (digs (s.data.toList.drop a) ≠ []) := Lib.hid (fun c => HD.out (HG.out.none.2 c))
        have HAT := Lib.hid (is_at s e1 46)
        generalize hdot : isAt s e1 46 = dot at *
        clear hdot
        go_cut [41] from 6 (fun x wx => x = .bool dot ∧ wx = W2)
        case first =>
          have ge := HG.out.le
          rcases HAT.out with ⟨rfl, _, hlt, hb⟩ | ⟨rfl, _, ⟨hlt, hb⟩ | hlt⟩
          · have g1 := byte_is (n := 46) rfl hb
            have g2 : (e1 : Int) < (s.size : Int) := by omega
            go_wp2_with fail; go_meet; exact ⟨rfl, rfl⟩
          · have g1 := byte_not (n := 46) rfl hb
            have g2 : (e1 : Int) < (s.size : Int) := by omega
            go_wp2_with fail; go_meet; exact ⟨rfl, rfl⟩
          · have g2 : ¬ (e1 : Int) < (s.size : Int) := by omega
            go_wp2_with fail; go_meet; exact ⟨rfl, rfl⟩
        case rest =>
          obtain ⟨rfl, hw⟩ := hcut
          subst hw
          go_upto_if 41 with (fail)
          go_cut [4] from 6 (fun x wx => ∃ (a2 : Nat) (D2 : ByteArray) (af : Nat), x = .int .i64 (a2 : Int) ∧ Hid (Nm wx (w.heap.size + 1) (.bool mi) (.string D2) (.int .i64 (af : Int)) (.bool false) (.string ⟨#[]⟩) (.bool false)) ∧ Hid (Nm wx w.heap.size (.bool false) (.string ⟨#[]⟩) (.int .i64 0) (.bool false) (.string ⟨#[]⟩) (.bool false)) ∧ Hid (Ext w wx) ∧ Hid (a2 ≤ s.size ∧ D2.data.toList.all isDg = true ∧ D2.size ≤ 60 ∧ af ≤ 60 ∧ headN s.data.toList mi D2.data.toList (-(af : Int)) (s.data.toList.drop a2)))
          case first =>
            rcases HAT.out with ⟨rfl, hc, hlt, hb⟩ | ⟨rfl, hc, _⟩
            · have HCD := Lib.hid (read_dot HL.out HCUT.out HDN.out HG.out.rest hc)
              obtain ⟨q, hq⟩ : ∃ q, q = e1 + 1 := ⟨_, rfl⟩
              rw [← hq] at HCD
              obtain ⟨e2, F, G2⟩ := dgs_at s q (by omega)
              have HG2 := Lib.hid G2
              have DC := Lib.hid (rdigits_any s q e2 (by have := HS.out; omega) (by omega) G2.sum)
              have HQ := Lib.hid hq
              have HLT := Lib.hid hlt
              obtain ⟨m1, m2⟩ := step_one (k := e1) (by have := HS.out; omega)
              rw [← hq] at m1 m2
              clear G2 hq hb hc hlt
              go_wp2_with fail
              refine (DC.out _).mono ?_
              rintro x w3 ⟨rfl, hx⟩
              have T3 := Lib.hid (R3.out.later hx); have T2 := Lib.hid (R2.out.later hx); have TX := Lib.hid (RX.out.trans hx)
              clear hx R3 R2 RX DC
              by_cases hd : e2 = q
              · subst hd

                have z0 := T2.out.c0; have z1 := T2.out.c1; have z2 := T2.out.c2; have z3 := T2.out.c3; have z4 := T2.out.c4; have z5 := T2.out.c5; have zf := T2.out.fz
                have BAD := Lib.hid (split_bad (HCD.out.1 (HG2.out.none.1 rfl)))
                go_wp2
                refine bodyPost_ret (v := .agg #[.bool false, .string ⟨#[]⟩, .int .i64 0, .bool false, .string ⟨#[]⟩, .bool false]) ?_ rfl ⟨BAD.out, ?_⟩
                · simp [results, Tryz.results85, go_sem, z0, z1, z2, z3, z4, z5]
                · repeat (first | with_reducible exact TX.out | with_reducible refine Ext.setCell ?_ (by simp) _)
              · obtain ⟨y1, y2, y3, y4⟩ := int_ne hd
                have HD2 := Lib.hid hd
                go_upto_region 17 with (fail)
                clear y1 y2 y3 y4 hd
                have gx := HG2.out.ex; have gl : (q : Int) ≤ (e2 : Int) := Int.ofNat_le.2 HG2.out.ge; have gh : (e2 : Int) ≤ (s.size : Int) := Int.ofNat_le.2 HG2.out.le
                have gl2 := HG2.out.ge; have gh2 := HG2.out.le
                have gD : D.size ≤ 1000 := by rw [HG.out.size]; have := HG.out.le; have := HS.out; omega
                have gF : F.size ≤ 1000 := by rw [HG2.out.size]; have := HG2.out.le; have := HS.out; omega
                have gDF : ¬ 9223372036854775807 < D.size + F.size := by omega
                refine wp_region_S (fun uu : World => Ext w3 uu) 9 (by kernel_rfl) ?_
                have HSW : Ext w3 w3.drew := (Ext.refl w3).drew
                refine GoS.pure (i := 0) (v := ?_) rfl (by kernel_rfl) (by kernel_rfl) (by kernel_rfl) (by kernel_rfl) (fun _ _ _ h => h) (Or.inl ⟨by rfl, ?hy1⟩) (fun _ => HSW) ?_
                case hy1 => ((intro u' hT; go_simp); try with_reducible rfl)
                try simp only [List.getElem_toArray, List.getElem_cons_zero, Act.put, List.setIfInBounds_toArray, List.set_cons_zero, List.set_cons_succ]
                refine GoS.take (i := 1) (v := ?_) rfl (by kernel_rfl) (by kernel_rfl) (by kernel_rfl) (by kernel_rfl) (fun _ _ _ h => h) (Or.inl ⟨by rfl, ?hy2⟩) HSW ?_
                case hy2 => ((intro u' hT; have d1 := (T3.out.later hT).c1; go_simp); try with_reducible rfl)
                try simp only [List.getElem_toArray, List.getElem_cons_succ, List.getElem_cons_zero, Act.put, List.setIfInBounds_toArray, List.set_cons_zero, List.set_cons_succ]
                refine GoS.pure (i := 2) (v := ?_) rfl (by kernel_rfl) (by kernel_rfl) (by kernel_rfl) (by kernel_rfl) (fun _ _ _ h => h) (Or.inl ⟨by rfl, ?hy3⟩) (fun _ => HSW) ?_
                case hy3 => ((intro u' hT; go_simp); try with_reducible rfl)
                try simp only [List.getElem_toArray, List.getElem_cons_succ, List.getElem_cons_zero, Act.put, List.setIfInBounds_toArray, List.set_cons_zero, List.set_cons_succ]
                refine GoS.pure (i := 3) (v := ?_) rfl (by kernel_rfl) (by kernel_rfl) (by kernel_rfl) (by kernel_rfl) (fun _ _ _ h => h) (Or.inl ⟨by rfl, ?hy4⟩) (fun _ => HSW) ?_
                case hy4 => ((intro u' hT; go_simp); try with_reducible rfl)
                try simp only [List.getElem_toArray, List.getElem_cons_succ, List.getElem_cons_zero, Act.put, List.setIfInBounds_toArray, List.set_cons_zero, List.set_cons_succ]
                refine GoS.pure (i := 4) (v := ?_) rfl (by kernel_rfl) (by kernel_rfl) (by kernel_rfl) (by kernel_rfl) (fun _ _ _ h => h) (Or.inl ⟨by rfl, ?hy5⟩) (fun _ => HSW) ?_
                case hy5 => ((intro u' hT; go_simp); try with_reducible rfl)
                try simp only [List.getElem_toArray, List.getElem_cons_succ, List.getElem_cons_zero, Act.put, List.setIfInBounds_toArray, List.set_cons_zero, List.set_cons_succ]
                refine GoS.pure (i := 5) (v := ?_) rfl (by kernel_rfl) (by kernel_rfl) (by kernel_rfl) (by kernel_rfl) (fun _ _ _ h => h) (Or.inl ⟨by rfl, ?hy6⟩) (fun _ => HSW) ?_
                case hy6 => ((intro u' hT; go_simp); try with_reducible rfl)
                try simp only [List.getElem_toArray, List.getElem_cons_succ, List.getElem_cons_zero, Act.put, List.setIfInBounds_toArray, List.set_cons_zero, List.set_cons_succ]
                refine GoS.pure (i := 6) (v := ?_) rfl (by kernel_rfl) (by kernel_rfl) (by kernel_rfl) (by kernel_rfl) (fun _ _ _ h => h) (Or.inl ⟨by rfl, ?hy7⟩) (fun _ => HSW) ?_
                case hy7 => ((intro u' hT; go_simp); try with_reducible rfl)
                try simp only [List.getElem_toArray, List.getElem_cons_succ, List.getElem_cons_zero, Act.put, List.setIfInBounds_toArray, List.set_cons_zero, List.set_cons_succ]
                refine GoS.pure (i := 7) (v := ?_) rfl (by kernel_rfl) (by kernel_rfl) (by kernel_rfl) (by kernel_rfl) (fun _ _ _ h => h) (Or.inl ⟨by rfl, ?hy8⟩) (fun _ => HSW) ?_
                case hy8 => ((intro u' hT; go_simp); try with_reducible rfl)
                try simp only [List.getElem_toArray, List.getElem_cons_succ, List.getElem_cons_zero, Act.put, List.setIfInBounds_toArray, List.set_cons_zero, List.set_cons_succ]
                refine GoS.pure (i := 8) (v := ?_) rfl (by kernel_rfl) (by kernel_rfl) (by kernel_rfl) (by kernel_rfl) (fun _ _ _ h => h) (Or.inl ⟨by rfl, ?hy9⟩) (fun _ => HSW) ?_
                case hy9 => ((intro u' hT; go_simp); try with_reducible rfl)
                try simp only [List.getElem_toArray, List.getElem_cons_succ, List.getElem_cons_zero, Act.put, List.setIfInBounds_toArray, List.set_cons_zero, List.set_cons_succ]
                have nf := (T3.out.later HSW).fz; have n1 := (T3.out.later HSW).c1
                refine GoS.store (i := 9) (by kernel_rfl) rfl (by kernel_rfl) (fun K hK => ?_)
                go_simp
                refine hK.out _ _ ?_
                clear hK K
                try simp only [List.getElem_toArray, List.getElem_cons_succ, List.getElem_cons_zero, Act.put, List.setIfInBounds_toArray, List.set_cons_zero, List.set_cons_succ]
                refine GoS.done (by kernel_rfl) ?_
                have U3 := Lib.hid ((T3.out.set1 (.string (D ++ F))).later (Ext.refl _).drew); have U2 := Lib.hid ((T2.out.aside (p := 1) (v := .string (D ++ F)) HNE.out).later (Ext.refl _).drew)
                have UX := Lib.hid ((TX.out.setCell (p := ⟨w.heap.size + 1, 1, none⟩) (Nat.le_succ _) (.string (D ++ F))).drew)
                clear HSW T3 T2 TX n1 nf gx gl gh gl2 gh2
                generalize (w3.setCell ⟨w.heap.size + 1, 1, none⟩ (.string (D ++ F))).drew = W4 at *
                have hsum : e2 = e1 + 1 + F.size := by rw [HG2.out.size, ← HQ.out]; have := HG2.out.ge; omega
                obtain ⟨r, r1, r2, r3, r4⟩ := sub_two hsum (by have := HG2.out.le; have := HS.out; omega)
                have V3 := Lib.hid (U3.out.set2 (.int .i64 (F.size : Int))); have V2 := Lib.hid (U2.out.aside (p := 2) (v := .int .i64 (F.size : Int)) HNE.out)
                have VX := Lib.hid (UX.out.setCell (p := ⟨w.heap.size + 1, 2, none⟩) (Nat.le_succ _) (.int .i64 (F.size : Int)))
                have n2 := U3.out.c2; have nf := U3.out.fz
                have FACT : Hid (e2 ≤ s.size ∧ (D ++ F).data.toList.all isDg = true ∧ (D ++ F).size ≤ 60 ∧ F.size ≤ 60 ∧ headN s.data.toList mi (D ++ F).data.toList (-(F.size : Int)) (s.data.toList.drop e2)) := Lib.hid (by
                  refine ⟨HG2.out.le, app_all HG.out.all HG2.out.all, ?_, ?_, ?_⟩
                  · rw [app_size, HG.out.size, HG2.out.size]; have := HG2.out.le; have := HG.out.ge; have := HS.out; have := HG2.out.ge; have := HQ.out; clear r1 r2 r3 r4; omega
                  · rw [HG2.out.size]; have := HG2.out.le; have := HS.out; clear r1 r2 r3 r4; omega
                  · have := HCD.out.2 (fun c => HD2.out (HG2.out.none.2 c))
                    rw [app_list, HG.out.list, HG2.out.list, HG2.out.rest]
                    have e3 : F.size = (digs (s.data.toList.drop q)).length := by rw [← HG2.out.list]; simp
                    rw [e3]
                    exact this)
                generalize hfs : F.size = fs at *
                clear hfs hsum U3 U2 UX
                go_wp2_with fail; go_meet; exact ⟨e2, D ++ F, fs, rfl, V3, V2, VX, FACT⟩
            · have HP := Lib.hid (read_plain HL.out HCUT.out HDN.out HG.out.rest hc)
              have FACT : Hid (e1 ≤ s.size ∧ D.data.toList.all isDg = true ∧ D.size ≤ 60 ∧ 0 ≤ 60 ∧ headN s.data.toList mi D.data.toList (-((0 : Nat) : Int)) (s.data.toList.drop e1)) := Lib.hid ⟨HG.out.le, HG.out.all, by rw [HG.out.size]; have := HG.out.le; have := HS.out; omega, Nat.zero_le _, by rw [HG.out.list]; exact HP.out⟩
              clear hc
              go_wp2_with fail; go_meet; exact ⟨e1, D, 0, rfl, R3, R2, RX, FACT⟩
          case rest =>
            obtain ⟨a2, D2, af, rfl, S3, S2, SX, SF⟩ := hcut
            clear R3 R2 RX HAT HDN HG HD HCUT HA
            go_upto_region 20 with (fail)
            have HAT := Lib.hid (is_at s a2 101)
            generalize hdot : isAt s a2 101 = ex at *
            clear hdot
            go_cut [75] from 6 (fun x wx => x = .bool ex ∧ ∃ u9 : World, u9 = wx ∧ Hid (Nm u9 (w.heap.size + 1) (.bool mi) (.string D2) (.int .i64 (af : Int)) (.bool false) (.string ⟨#[]⟩) (.bool false)) ∧ Hid (Nm u9 w.heap.size (.bool false) (.string ⟨#[]⟩) (.int .i64 0) (.bool false) (.string ⟨#[]⟩) (.bool false)) ∧ Hid (Ext w u9))
            case first =>
              have ge := SF.out.1
              rcases HAT.out with ⟨rfl, _, hlt, hb⟩ | ⟨rfl, _, ⟨hlt, hb⟩ | hlt⟩
              · have g1 := byte_is (n := 101) rfl hb
                have g2 : (a2 : Int) < (s.size : Int) := by omega
                go_wp2_with fail; go_meet; exact ⟨rfl, _, rfl, S3, S2, SX⟩
              · have g1 := byte_not (n := 101) rfl hb
                have g2 : (a2 : Int) < (s.size : Int) := by omega
                go_wp2_with fail; go_meet; exact ⟨rfl, _, rfl, S3, S2, SX⟩
              · have g2 : ¬ (a2 : Int) < (s.size : Int) := by omega
                go_wp2_with fail; go_meet; exact ⟨rfl, _, rfl, S3, S2, SX⟩
            case rest =>
              obtain ⟨rfl, u9, hu9, S3', S2', SX'⟩ := hcut
              subst hu9
              clear S3 S2 SX
              go_upto_if 75 with (fail)
              go_cut [4] from 6 (fun x wx => ∃ (a3 : Nat) (le : Bool) (E : ByteArray), x = .int .i64 (a3 : Int) ∧ Hid (Nm wx (w.heap.size + 1) (.bool mi) (.string D2) (.int .i64 (af : Int)) (.bool le) (.string E) (.bool false)) ∧ Hid (Nm wx w.heap.size (.bool false) (.string ⟨#[]⟩) (.int .i64 0) (.bool false) (.string ⟨#[]⟩) (.bool false)) ∧ Hid (Ext w wx) ∧ Hid (a3 ≤ s.size ∧ E.data.toList.all isDg = true ∧ E.size ≤ 60 ∧ TailAt s.data.toList a3 mi D2.data.toList (-(af : Int)) le E.data.toList))
              case first =>
                rcases HAT.out with ⟨rfl, hc, hlt, hb⟩ | ⟨rfl, hc, _⟩
                · obtain ⟨k, hk⟩ : ∃ k, k = a2 + 1 := ⟨_, rfl⟩
                  obtain ⟨le, a4, ha4, hsg, hway⟩ := sgn_any s k (by omega)
                  have HC := Lib.hid (fun e hr => tail_exp (e := e) SF.out.2.2.2.2 hc hk hsg hr)
                  have HA4 := Lib.hid ha4; have HWAY := Lib.hid hway; have HKK := Lib.hid (show k ≤ s.size by omega)
                  obtain ⟨m1, m2⟩ := step_one (k := a2) (by have := HS.out; omega)
                  rw [← hk] at m1 m2
                  clear hk hb hc hsg ha4 hway hlt
                  go_upto_region 22 with (fail)
                  clear m1 m2
                  go_cut [93] from 6 (fun x wx => x = .bool (decide (a4 ≠ k)) ∧ ∃ u8 : World, u8 = wx ∧ Hid (Nm u8 (w.heap.size + 1) (.bool mi) (.string D2) (.int .i64 (af : Int)) (.bool false) (.string ⟨#[]⟩) (.bool false)) ∧ Hid (Nm u8 w.heap.size (.bool false) (.string ⟨#[]⟩) (.int .i64 0) (.bool false) (.string ⟨#[]⟩) (.bool false)) ∧ Hid (Ext w u8))
                  case first =>
                    rcases HWAY.out with ⟨rfl, rfl, hlt, hb⟩ | ⟨rfl, rfl, hlt, hb⟩ | ⟨rfl, rfl, hlt, hb, hb2⟩ | ⟨rfl, rfl, hlt⟩
                    · have g1 := byte_is (n := 45) rfl hb
                      have g3 := byte_not (n := 43) (c := 43) rfl (show s[k] ≠ 43 by rw [hb]; decide)
                      have g2 : (k : Int) < (s.size : Int) := by omega
                      go_wp2_with fail; go_meet; exact ⟨by simp, _, rfl, S3', S2', SX'⟩
                    · have g1 := byte_is (n := 43) rfl hb
                      have g2 : (k : Int) < (s.size : Int) := by omega
                      go_wp2_with fail; go_meet; exact ⟨by simp, _, rfl, S3', S2', SX'⟩
                    · have g1 := byte_not (n := 45) rfl hb
                      have g3 := byte_not (n := 43) rfl hb2
                      have g2 : (a4 : Int) < (s.size : Int) := by omega
                      go_wp2_with fail; go_meet; exact ⟨by simp, _, rfl, S3', S2', SX'⟩
                    · have g2 : ¬ (a4 : Int) < (s.size : Int) := by omega
                      go_wp2_with fail; go_meet; exact ⟨by simp, _, rfl, S3', S2', SX'⟩
                  case rest =>
                    obtain ⟨rfl, u8, hu8, A3, A2, AX⟩ := hcut
                    subst hu8
                    clear S3' S2' SX'
                    go_upto_if 93 with (fail)
                    go_cut [4] from 6 (fun x wx => x = .int .i64 (a4 : Int) ∧ Hid (Nm wx (w.heap.size + 1) (.bool mi) (.string D2) (.int .i64 (af : Int)) (.bool le) (.string ⟨#[]⟩) (.bool false)) ∧ Hid (Nm wx w.heap.size (.bool false) (.string ⟨#[]⟩) (.int .i64 0) (.bool false) (.string ⟨#[]⟩) (.bool false)) ∧ Hid (Ext w wx))
                    case first =>
                      have n3 := A3.out.c3; have nf := A3.out.fz
                      have hs := HS.out
                      rcases HWAY.out with ⟨rfl, rfl, hlt, hb⟩ | ⟨rfl, rfl, hlt, hb⟩ | ⟨rfl, rfl, _⟩ | ⟨rfl, rfl, _⟩
                      · rw [decide_eq_true (by omega)]
                        have g1 := byte_is (n := 45) rfl hb
                        have B3 := Lib.hid (A3.out.set3 (.bool true)); have B2 := Lib.hid (A2.out.aside (p := 3) (v := .bool true) HNE.out)
                        have BX := Lib.hid (AX.out.setCell (p := ⟨w.heap.size + 1, 3, none⟩) (Nat.le_succ _) (.bool true))
                        clear hs
                        go_wp2_with fail; go_meet; exact ⟨by first | rfl | go_num, B3, B2, BX⟩
                      · rw [decide_eq_true (by omega)]
                        have g1 := byte_not (n := 45) (c := 45) rfl (show s[k] ≠ 45 by rw [hb]; decide)
                        have B3 := Lib.hid (A3.out.set3 (.bool false)); have B2 := Lib.hid (A2.out.aside (p := 3) (v := .bool false) HNE.out)
                        have BX := Lib.hid (AX.out.setCell (p := ⟨w.heap.size + 1, 3, none⟩) (Nat.le_succ _) (.bool false))
                        clear hs
                        go_wp2_with fail; go_meet; exact ⟨by first | rfl | go_num, B3, B2, BX⟩
                      · rw [decide_eq_false (by omega)]
                        go_wp2_with fail; go_meet; exact ⟨rfl, A3, A2, AX⟩
                      · rw [decide_eq_false (by omega)]
                        go_wp2_with fail; go_meet; exact ⟨rfl, A3, A2, AX⟩
                    case rest =>
                      obtain ⟨rfl, B3, B2, BX⟩ := hcut
                      clear A3 A2 AX HWAY
                      obtain ⟨e3, E, G⟩ := dgs_at s a4 HA4.out
                      have HG := Lib.hid G
                      have DC := Lib.hid (rdigits_any s a4 e3 (by have := HS.out; omega) HA4.out G.sum)
                      have HCE := Lib.hid (HC.out e3 G.rest)
                      clear G
                      go_wp2_with fail
                      refine (DC.out _).mono ?_
                      rintro x w5 ⟨rfl, hx⟩
                      have C3 := Lib.hid (B3.out.later hx); have C2 := Lib.hid (B2.out.later hx); have CX := Lib.hid (BX.out.trans hx)
                      clear hx B3 B2 BX DC HC
                      by_cases hd : e3 = a4
                      · subst hd
                        have z0 := C2.out.c0; have z1 := C2.out.c1; have z2 := C2.out.c2; have z3 := C2.out.c3; have z4 := C2.out.c4; have z5 := C2.out.c5; have zf := C2.out.fz
                        have BAD := Lib.hid (split_bad (HCE.out.1 (HG.out.none.1 rfl)))
                        go_wp2
                        refine bodyPost_ret (v := .agg #[.bool false, .string ⟨#[]⟩, .int .i64 0, .bool false, .string ⟨#[]⟩, .bool false]) ?_ rfl ⟨BAD.out, ?_⟩
                        · simp [results, Tryz.results85, go_sem, z0, z1, z2, z3, z4, z5]
                        · repeat (first | with_reducible exact CX.out | with_reducible refine Ext.setCell ?_ (by simp) _)
                      · obtain ⟨y1, y2, y3, y4⟩ := int_ne hd
                        have HT := Lib.hid (HCE.out.2 (fun c => hd (HG.out.none.2 c)))
                        have gx := HG.out.ex; have gl : (a4 : Int) ≤ (e3 : Int) := Int.ofNat_le.2 HG.out.ge; have gh : (e3 : Int) ≤ (s.size : Int) := Int.ofNat_le.2 HG.out.le
                        have gl2 := HG.out.ge; have gh2 := HG.out.le
                        have n4 := C3.out.c4; have nf := C3.out.fz
                        have E3 := Lib.hid (C3.out.set4 (.string E)); have E2 := Lib.hid (C2.out.aside (p := 4) (v := .string E) HNE.out)
                        have EX := Lib.hid (CX.out.setCell (p := ⟨w.heap.size + 1, 4, none⟩) (Nat.le_succ _) (.string E))
                        have FACT : Hid (e3 ≤ s.size ∧ E.data.toList.all isDg = true ∧ E.size ≤ 60 ∧ TailAt s.data.toList e3 mi D2.data.toList (-(af : Int)) le E.data.toList) := Lib.hid ⟨HG.out.le, HG.out.all, by rw [HG.out.size]; have := HG.out.le; have := HS.out; omega, by rw [HG.out.list]; exact HT.out⟩
                        clear hd
                        go_wp2_with fail; go_meet; exact ⟨e3, le, E, rfl, E3, E2, EX, FACT⟩
                · have FACT : Hid (a2 ≤ s.size ∧ (⟨#[]⟩ : ByteArray).data.toList.all isDg = true ∧ (⟨#[]⟩ : ByteArray).size ≤ 60 ∧ TailAt s.data.toList a2 mi D2.data.toList (-(af : Int)) false (⟨#[]⟩ : ByteArray).data.toList) := Lib.hid ⟨SF.out.1, by decide, by decide, tail_none SF.out.2.2.2.2 hc⟩
                  clear hc
                  go_wp2_with fail; go_meet; exact ⟨a2, false, ⟨#[]⟩, rfl, S3', S2', SX', FACT⟩
              case rest =>
                obtain ⟨a3, le, E, rfl, T3, T2, TX, TF⟩ := hcut
                clear S3' S2' SX' HAT
                have n5 := T3.out.c5; have nf := T3.out.fz
                have n0 := T3.out.c0; have n1 := T3.out.c1; have n2 := T3.out.c2; have n3 := T3.out.c3; have n4 := T3.out.c4
                have z0 := T2.out.c0; have z1 := T2.out.c1; have z2 := T2.out.c2; have z3 := T2.out.c3; have z4 := T2.out.c4; have z5 := T2.out.c5; have zf := T2.out.fz
                have ne := HNE.out
                by_cases he : a3 = s.size
                · have R : Hid (SplitTo (.returned (.agg #[.bool mi, .string D2, .int .i64 (af : Int), .bool le, .string E, .bool true])) s.data.toList) := Lib.hid ⟨mi, D2, af, le, E, true, rfl, (fun c => by cases c), fun _ => ⟨SF.out.2.1, SF.out.2.2.1, TF.out.2.1, TF.out.2.2.1, SF.out.2.2.2.1, by
                    have := TF.out.2.2.2
                    unfold TailAt at this
                    rw [if_pos ((drop_end s a3).2 (by omega))] at this
                    exact this⟩⟩
                  have g1 : ((a3 : Int) == (s.size : Int)) = true := by rw [he]; simp
                  have g2 : (a3 : Int) = (s.size : Int) := by rw [he]
                  clear he
                  go_wp2
                  refine bodyPost_ret (v := .agg #[.bool mi, .string D2, .int .i64 (af : Int), .bool le, .string E, .bool true]) ?_ rfl ⟨R.out, ?_⟩
                  · simp [results, Tryz.results85, go_sem, z0, z1, z2, z3, z4, z5]
                  · repeat (first | with_reducible exact TX.out | with_reducible refine Ext.setCell ?_ (by simp) _)
                · obtain ⟨y1, y2, y3, y4⟩ := int_ne he
                  have R : Hid (SplitTo (.returned (.agg #[.bool mi, .string D2, .int .i64 (af : Int), .bool le, .string E, .bool false])) s.data.toList) := Lib.hid ⟨mi, D2, af, le, E, false, rfl, fun _ => by
                    have := TF.out.2.2.2
                    unfold TailAt at this
                    rw [if_neg (fun c => by have := (drop_end s a3).1 c; have := TF.out.1; omega)] at this
                    exact this, (fun c => by cases c)⟩
                  clear he
                  go_wp2
                  refine bodyPost_ret (v := .agg #[.bool mi, .string D2, .int .i64 (af : Int), .bool le, .string E, .bool false]) ?_ rfl ⟨R.out, ?_⟩
                  · simp [results, Tryz.results85, go_sem, z0, z1, z2, z3, z4, z5]
                  · repeat (first | with_reducible exact TX.out | with_reducible refine Ext.setCell ?_ (by simp) _)
end Go.Proofs.YtogfiekbikechaaGreatDoor
