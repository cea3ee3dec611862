/- The walk of IntegerSums. -/
import Derived.Test.YthbajdpblgclpaaMg
import Derived.Test.YthbajdpblgclpaaWh
import Derived.Test.YthbajdpblgclpaaInts
import Derived.Maps.AppendAt
import Derived.Laws.AppendOwn
namespace Go.Proofs.Ythbajdpblgclpaa.integerSums
open Go.RowKit

theorem infoE : (Try.prog.info? 3).map (fun i => (i.zero, i.size, i.bytes)) = some (some (.int .i64 0), 1, 8) := by kernel_rfl

theorem back_snoc (l : List Int) (k : Nat) (h : k < l.length) : l.reverse.take (k + 1) = l.reverse.take k ++ [l.getD (l.length - 1 - k) 0] := by
  rw [take_snocI l.reverse k (by simpa using h)]
  congr 2
  simp [List.getD, List.getElem?_reverse h]
theorem back_all (l : List Int) (k : Nat) (h : l.length ≤ k) : l.reverse.take k = l.reverse := List.take_of_length_le (by simpa using h)

set_option maxRecDepth 100000 in
set_option maxHeartbeats 4000000 in
theorem walk (v0 v1 : Value) (l m : List Int) (w : World) (h0 : IsInts2 w v0 l) (h1 : IsInts2 w v1 m) (hn : l.length + m.length ≤ 1048576) :
    Calls Try.prog 12 #[v0, v1] w fun e w' => e = .returned (.bool true) ∧ Ext w w' := by
  have H0 := Lib.hid h0
  have H1 := Lib.hid h1
  clear h0 h1
  go_enter Try.func12, Try.ntmps12
  go_wp2_with fail
  refine (awake_any _).mono ?_
  rintro e w1 ⟨rfl, hx1⟩
  have I0 := Lib.hid (H0.out.ext hx1)
  have I1 := Lib.hid (H1.out.ext hx1)
  have hnil : w1.ownsRow w1.heap.size 3 1 (.slice none 0 0) 0 [] := ⟨rfl, Or.inl ⟨rfl, rfl⟩⟩
  have HN := Lib.hid hn
  have hl1 : l.length ≤ 1048576 := by omega
  have hl2 : m.length ≤ 1048576 := by omega
  clear hn
  have hbs : (l ++ m).length = l.length + m.length := List.length_append
  have hwf : ∀ z, z ∈ l ++ m → (Lit.int .i64 z).wf = true := fun z hz => (List.mem_append.1 hz).elim (I0.out.wfs z) (I1.out.wfs z)
  have HW := Lib.hid hwf
  have HB := Lib.hid hbs
  clear hwf hbs
  go_wp2_with (first | (at_builtin; refine app_ints rfl (.tmp 20) (.tmp 21) 29 rfl w1.heap.size 3 infoE Try.underlying29 _ 0 [] rfl hnil _ l rfl I0.out (by omega) (Nat.le_refl _) ?_; intro va w2 hown1 hb1; have J1 := Lib.hid (I1.out.ext ⟨hb1⟩); have hz1 := hb1.size; simp only [Nat.zero_add, List.nil_append] at hown1) | (at_builtin; refine app_ints rfl (.tmp 23) (.tmp 24) 29 rfl w1.heap.size 3 infoE Try.underlying29 _ l.length _ rfl hown1 _ m rfl J1.out (by omega) hz1 ?_; intro vb w3 hown2 hb2; obtain ⟨ao, cap, hv, hsh⟩ := own_shape hown2; rw [hv]; rw [hv] at hown2; rw [← List.map_append] at hown2 hsh; have O2 := Lib.hid hown2; have SH := Lib.hid hsh; clear hown2 hsh hv hown1))
  obtain ⟨L, hL⟩ : ∃ L, l.length + m.length = L := ⟨_, rfl⟩
  have HL := Lib.hid hL
  have e0 : (l.length : Int) + (m.length : Int) = (L : Int) := by omega
  have e1 : ((l.length + m.length : Nat) : Int) = (L : Int) := by omega
  rw [hL] at O2 SH HN ⊢
  have hN : L ≤ 1048576 := HN.out
  have hz3 : w1.heap.size ≤ w3.heap.size := Nat.le_trans hz1 hb2.size
  have hx3 : Ext w1 w3 := ⟨hb1.trans hb2⟩
  have OI := Lib.hid (own_ints2 O2.out (by omega) HW.out)
  have hbl : (l ++ m).length = L := by rw [HB.out, hL]
  have HBL := Lib.hid hbl
  clear hbl e0 e1 hL
  go_loopw [7, 8] (fun b i wr => ∃ k : Nat, k ≤ L ∧ i = .int .i64 ((L : Int) - 1 - (k : Int)) ∧ wr.ownsRow w3.heap.size 3 1 b k (((l ++ m).reverse.take k).map (Value.int .i64)) ∧ Below w3.heap.size w3 wr) (fun _ i _ => (intOf i + 1).toNat)
  case atStart => exact ⟨0, Nat.zero_le _, by (have := HL.out; simp; omega), ⟨by simp, Or.inl ⟨rfl, rfl⟩⟩, Below.refl _ _⟩
  case round =>
    obtain ⟨k, hk, rfl, hown, hB⟩ := hrel
    have hBz := hB.size
    by_cases hlt : k < L
    · obtain ⟨g, rfl, hg1, hg2, hcs⟩ := SH.out (by omega)
      have hcell : wr.cell? ⟨g, L - 1 - k, none⟩ = some (.int .i64 ((l ++ m).getD (L - 1 - k) 0)) := by
        rw [hB.cell (p := ⟨g, L - 1 - k, none⟩) hg2]
        have hj : L - 1 - k < (l ++ m).length := by rw [HBL.out]; omega
        exact hcs _ _ (by rw [List.getElem?_map, List.getElem?_eq_getElem hj]; simp [List.getD, List.getElem?_eq_getElem hj])
      have HS := Lib.hid (back_snoc (l ++ m) k (by rw [HBL.out]; exact hlt))
      rw [HBL.out] at HS
      generalize (l ++ m).getD (L - 1 - k) 0 = x at *
      clear hcs
      obtain ⟨i0, hi, hy0, hy1, hy2⟩ := info_parts infoE
      go_wp2_with (at_builtin; refine wpList_append_own _ rfl (.tmp 33) (.tmp 38) 29 rfl w3.heap.size 3 i0 (.int .i64 0) 1 8 Try.underlying29 hi hy0 hy1 hy2 rfl (by decide) _ k _ rfl (hown.alloc _) ⟨wr.heap.size, 0, none⟩ 1 1 [.int .i64 x] rfl rfl (cell_one_new _ _ _) (by simp [Value.oneCell']) (by unfold maxLen; omega) (by omega) (by simp; omega) ?_; intro v' w4 hown4 hg4 _)
      refine ⟨⟨k + 1, by omega, by (congr 1; omega), ?_, (hB.alloc hBz _).grown hg4 (by simp; omega) (fun j hj => (hown.lt j hj).1)⟩, by simp [intOf]; omega⟩
      rw [HS.out, List.map_append]
      exact hown4
    · obtain rfl : k = L := by omega
      have hx4 : Ext w1 wr := hx3.trans ⟨hB⟩
      have A0 := Lib.hid ((I0.out.ext hx4).one)
      have A1 := Lib.hid ((I1.out.ext hx4).one)
      have AB := Lib.hid ((OI.out.ext ⟨hB⟩).one)
      rw [back_all (l ++ m) k (by rw [HBL.out]; exact Nat.le_refl _)] at hown
      have AR := Lib.hid ((own_ints2 hown (by omega) (fun z hz => HW.out z (by simpa [or_comm] using hz))).one)
      have sb := sums_back (l ++ m)
      have sa := @sums_both l m
      clear hown
      generalize (l ++ m).reverse = R at *
      generalize l ++ m = B at *
      obtain ⟨sb1, sb2⟩ := sb
      have HX := Lib.hid (hx1.trans hx4)
      clear hnil hx1 hx3 hx4 hb1 hb2 hB hBz hz1 hz3
      rcases Decidable.em (sumE l = 0) with e | e <;> rcases Decidable.em (sumE m = 0) with f | f <;>
      (try (have sc := sa e f; obtain ⟨sc1, sc2⟩ := sc)
       clear sa
       try have e' : (sumE l == 0) = false := by simp [e]
       try have f' : (sumE m == 0) = false := by simp [f]
       go_wp2_with fail
       refine (sum_any _ l _ A0.out).mono ?_
       rintro e w' ⟨rfl, rfl⟩
       go_wp2_with fail
       refine (sum_any _ m _ A1.out).mono ?_
       rintro e w' ⟨rfl, rfl⟩
       go_wp2_with fail
       refine (sum_any _ B _ AB.out).mono ?_
       rintro e w' ⟨rfl, rfl⟩
       go_wp2_with fail
       refine (sum_any _ R _ AR.out).mono ?_
       rintro e w' ⟨rfl, rfl⟩
       go_wp2_with (go_at_call 26; refine (add_any _ _ _).mono ?_; rintro e w' ⟨rfl, rfl⟩)
       all_goals go_ret
       all_goals exact ⟨rfl, HX.out⟩)
end Go.Proofs.Ythbajdpblgclpaa.integerSums
