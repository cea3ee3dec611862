/- Layer 2: digits laid out; the text of a number. -/
import Derived.Test.YtoeahfddnjbhbaaGreatDoorNzs
import Derived.Test.YtoeahfddnjbhbaaGreatDoorNh
import Derived.Test.YtoeahfddnjbhbaaGreatDoorGa
import Derived.Sort.Grow
import Derived.Lib.ItoaLen
namespace Go.Proofs.YtoeahfddnjbhbaaGreatDoor
open Go.RowKit

/-- The library's table of powers lies as its initialiser lays it. -/
def Pow10 (w : World) : Prop := Lib.TabIs Tryz.prog w "internal/strconv.uint64pow10" .u64 Lib.pow10Tab
theorem Pow10.later {w w' : World} (h : Pow10 w) (hx : Ext w w') : Pow10 w' := by
  unfold Pow10 Lib.TabIs World.var? at *
  cases hg : Tryz.prog.globalNamed "internal/strconv.uint64pow10" with
  | none => simp [hg] at h
  | some g =>
    simp only [hg, Option.bind_some] at h ⊢
    have hlt : g < w.heap.size := by
      rcases Nat.lt_or_ge g w.heap.size with h' | h'
      · exact h'
      · rw [Array.getElem?_eq_none h'] at h; simp at h
    rw [hx.bel.block g hlt]
    exact h
theorem ext_grow (w : World) (k : Nat) (os : Array Obj) : Ext w (Sort.grow (w.drewN k) os) := by
  refine Ext.trans ((Ext.refl w).drewN k) ⟨rfl, rfl, rfl, by simp, fun j hj => Sort.heap_grow_old _ os hj⟩
theorem itoa_any (n : Int) (h0 : -9223372036854775808 ≤ n) (h1 : n ≤ 9223372036854775807) (w : World) (ht : Pow10 w) :
    Calls Tryz.prog 125 #[.int .i64 n] w fun e w' => e = .returned (.string (bs (Lib.itoa n))) ∧ Ext w w' :=
  (Tryz.strconv_Itoa n h0 h1 w ht).mono fun e w' ⟨h, k, os, hw⟩ => ⟨h, by rw [hw]; exact ext_grow _ _ _⟩
theorem itoa_digit : ∀ d : Fin 11, Lib.itoa ((d.val : Nat) : Int) = itoaD d.val := by decide +kernel
theorem itoaD_any (d : Nat) (h : d ≤ 10) (w : World) (ht : Pow10 w) :
    Calls Tryz.prog 125 #[.int .i64 d] w fun e w' => e = .returned (.string (bs (itoaD d))) ∧ Ext w w' := by
  have := itoa_digit ⟨d, by omega⟩
  simp only at this
  rw [← this]
  exact itoa_any d (by omega) (by omega) w ht

/-- 0.D * 10^k as text. -/
def layoutV (d : List UInt8) (k : Int) : List UInt8 :=
  if k < -3 ∨ k > 9 then pointV (d.take 1) (d.drop 1) ++ [101] ++ Lib.itoa (k - 1)
  else if k < 1 then pointV [] (List.replicate (-k).toNat 48 ++ d)
  else if (d.length : Int) < k then pointV (d ++ List.replicate (k - d.length).toNat 48) []
  else pointV (d.take k.toNat) (d.drop k.toNat)
theorem bs_extract (d : List UInt8) (a b : Nat) : (bs d).extract a b = bs ((d.drop a).take (b - a)) := by
  have h : ((bs d).extract a b).data = (bs ((d.drop a).take (b - a))).data := by
    rw [ByteArray.data_extract]
    simp [bs, List.extract_eq_take_drop]
  exact ByteArray.ext h
theorem or0_len (l : List UInt8) : (or0 l).length ≤ l.length + 1 := by unfold or0; split <;> simp
theorem point_len (a b : List UInt8) : (pointV a b).length ≤ a.length + b.length + 3 := by
  unfold pointV; have := or0_len a; have := or0_len b; simp; omega
theorem layout_any (d : List UInt8) (k : Int) (hd : 1 ≤ d.length) (hd2 : d.length ≤ 80) (hk : -200 ≤ k) (hk2 : k ≤ 200) (w : World) (ht : Pow10 w) :
    Calls Tryz.prog 101 #[.string (bs d), .int .i64 k] w fun e w' => e = .returned (.string (bs (layoutV d k))) ∧ Ext w w' := by
  have hs : (bs d).size = d.length := rfl
  have e01 : (bs d).extract 0 1 = bs (d.take 1) := by rw [bs_extract]; simp
  have e1n : (bs d).extract 1 (bs d).size = bs (d.drop 1) := by rw [bs_extract, hs]; congr 1; rw [List.take_of_length_le (by simp)]
  have T : ∀ a b : List UInt8, a.length ≤ 1000 → b.length ≤ 1000 → ∀ u, Calls Tryz.prog 124 #[.string (bs a), .string (bs b)] u fun e w' => e = .returned (.string (bs (pointV a b))) ∧ Ext u w' := fun a b h1 h2 u => point_any a b h1 h2 u
  have h1 : (d.take 1).length ≤ 1000 := by simp; omega
  have h2 : (d.drop 1).length ≤ 1000 := by simp; omega
  have hi : (Lib.itoa (k - 1)).length ≤ 21 := Lib.itoa_length_le (k - 1) (by omega) (by omega)
  have I : ∀ u, Ext w u → Calls Tryz.prog 125 #[.int .i64 (k - 1)] u fun e w' => e = .returned (.string (bs (Lib.itoa (k - 1)))) ∧ Ext u w' := fun u hx => itoa_any (k - 1) (by omega) (by omega) u (ht.later hx)
  have lp := point_len (d.take 1) (d.drop 1)
  have ebs : bs (pointV (d.take 1) (d.drop 1)) ++ (⟨#[101]⟩ : ByteArray) ++ bs (Lib.itoa (k - 1)) = bs (pointV (d.take 1) (d.drop 1) ++ [101] ++ Lib.itoa (k - 1)) := by
    rw [← bs_append, ← bs_append]; rfl
  have sz : ∀ l : List UInt8, (bs l).size = l.length := fun _ => rfl
  unfold layoutV
  by_cases c1 : k < -3
  · rw [if_pos (.inl c1), ← ebs]
    exact layout_a k (by omega) (by omega) c1 (bs d) (bs []) _ _ (by omega) (by omega) w (by rw [e01, e1n]; exact T _ _ h1 h2) I (by rw [sz]; omega) (by rw [sz]; simp at lp ⊢; omega)
  · by_cases c2 : k > 9
    · rw [if_pos (.inr c2), ← ebs]
      exact layout_a2 k (by omega) (by omega) c1 c2 (bs d) (bs []) _ _ (by omega) (by omega) w (by rw [e01, e1n]; exact T _ _ h1 h2) I (by rw [sz]; omega) (by rw [sz]; simp at lp ⊢; omega)
    · rw [if_neg (by omega)]
      by_cases c3 : k < 1
      · rw [if_pos c3]
        refine layout_b k c1 c2 c3 (bs d) (bs (List.replicate (-k).toNat 48)) _ (by omega) w (fun u => ?_) (by rw [sz]; simp; omega) (by rw [bs_append]; exact T [] _ (by simp) (by simp; omega))
        have := rep_any (-k).toNat (by omega) u
        rw [show (((-k).toNat : Nat) : Int) = -k by omega] at this
        exact this
      · rw [if_neg c3]
        by_cases c4 : (d.length : Int) < k
        · rw [if_pos c4]
          refine layout_c k c1 c2 c3 (bs d) (bs (List.replicate (k - d.length).toNat 48)) _ (bs []) (by omega) (by omega) w c4 (fun u => ?_) (by rw [sz]; simp; omega) (by rw [bs_append]; exact T _ [] (by simp; omega) (by simp))
          have := rep_any (k - d.length).toNat (by omega) u
          rw [show (((k - d.length).toNat : Nat) : Int) = k - d.length by omega] at this
          exact this
        · rw [if_neg c4]
          have e0k : (bs d).extract 0 k.toNat = bs (d.take k.toNat) := by rw [bs_extract]; simp
          have ekn : (bs d).extract k.toNat (bs d).size = bs (d.drop k.toNat) := by rw [bs_extract, hs]; congr 1; rw [List.take_of_length_le (by simp)]
          exact layout_d k c1 c2 c3 (bs d) (bs []) _ (bs []) (by omega) (by omega) w c4 (by rw [e0k, ekn]; exact T _ _ (by simp; omega) (by simp; omega))
end Go.Proofs.YtoeahfddnjbhbaaGreatDoor
