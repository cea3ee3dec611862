/- Layer 2: the texts that Print lays out are read back as the number of their digits (no program here). -/
import Derived.Test.YthmndafjogndaaaGreatDoorKi
namespace Go.Proofs.YthmndafjogndaaaGreatDoor

theorem scale_shift (v z : Nat) (E sc : Int) (h : sc = E - z) : v * 10 ^ z * 10 ^ sc.toNat * 10 ^ (-E).toNat = v * 10 ^ E.toNat * 10 ^ (-sc).toNat := by
  rw [Nat.mul_assoc, Nat.mul_assoc, Nat.mul_assoc, ← Nat.pow_add, ← Nat.pow_add, ← Nat.pow_add]
  congr 2
  omega
theorem exp_itoa : ∀ k : Fin 260, expV (Lib.itoa ((k.val : Int) - 130)) = some ((k.val : Int) - 130) := by decide +kernel
theorem exp_any (k : Int) (h1 : -130 ≤ k) (h2 : k < 130) : expV (Lib.itoa k) = some k := by
  have := exp_itoa ⟨(k + 130).toNat, by omega⟩
  simp only at this
  rwa [show (((k + 130).toNat : Nat) : Int) - 130 = k by omega] at this
theorem or0_dg {l : List UInt8} (h : l.all isDg = true) : (or0 l).all isDg = true ∧ or0 l ≠ [] ∧ (or0 l).length ≤ l.length + 1 := by
  unfold or0
  by_cases c : l = []
  · rw [if_pos c]; exact ⟨by decide, by simp, by simp⟩
  · rw [if_neg c]; exact ⟨h, c, by omega⟩
theorem zeros_dg (k : Nat) : (List.replicate k (48 : UInt8)).all isDg = true := by
  rw [List.all_eq_true]
  intro c hc
  rw [(List.mem_replicate.1 hc).2]; decide
theorem take_dg {l : List UInt8} (k : Nat) (h : l.all isDg = true) : (l.take k).all isDg = true := by
  rw [List.all_eq_true] at h ⊢
  exact fun c hc => h c (List.mem_of_mem_take hc)
theorem drop_dg {l : List UInt8} (k : Nat) (h : l.all isDg = true) : (l.drop k).all isDg = true := by
  rw [List.all_eq_true] at h ⊢
  exact fun c hc => h c (List.mem_of_mem_drop hc)
theorem sgn_len (neg : Bool) : (sgn neg).length ≤ 1 := by cases neg <;> simp [sgn]
/-- A text a.b with digits. -/
theorem reads_plain {neg : Bool} {a b : List UInt8} {V z : Nat} {E : Int} (ha : a.all isDg = true) (hb : b.all isDg = true) (a0 : a ≠ []) (b0 : b ≠ []) (hl : a.length + b.length ≤ 50) (hv : valL (a ++ b) = V * 10 ^ z) (hE : -(b.length : Int) = E - z) :
    Reads (sgn neg ++ (a ++ [46] ++ b)) neg V E := by
  have e : a ++ [46] ++ b = a ++ 46 :: (b ++ []) := by simp
  have hs := sgn_len neg
  rw [e]
  refine numOf_reads (l := a ++ b) (sc := -(b.length : Int)) ?_ (by rw [List.length_append]; omega) (by rw [List.all_append, ha, hb]; rfl) ?_
  · rw [read_point neg a b [] ha hb a0 b0 (.inl rfl) (by rw [List.length_append, List.length_append, List.length_cons, List.append_nil]; omega)]
    rfl
  · rw [hv]; exact scale_shift V z E _ hE
/-- A text a.b with digits and an exponent. -/
theorem reads_exp {neg : Bool} {a b : List UInt8} {V z : Nat} {E k : Int} (ha : a.all isDg = true) (hb : b.all isDg = true) (a0 : a ≠ []) (b0 : b ≠ []) (hl : a.length + b.length ≤ 30) (hk1 : -130 ≤ k) (hk2 : k < 130) (hv : valL (a ++ b) = V * 10 ^ z) (hE : -(b.length : Int) + k = E - z) :
    Reads (sgn neg ++ (a ++ [46] ++ b ++ [101] ++ Lib.itoa k)) neg V E := by
  have e : a ++ [46] ++ b ++ [101] ++ Lib.itoa k = a ++ 46 :: (b ++ 101 :: Lib.itoa k) := by simp
  have hs := sgn_len neg
  have hi := Lib.itoa_length_le k (by omega) (by omega)
  rw [e]
  refine numOf_reads (l := a ++ b) (sc := -(b.length : Int) + k) ?_ (by rw [List.length_append]; omega) (by rw [List.all_append, ha, hb]; rfl) ?_
  · rw [read_point neg a b (101 :: Lib.itoa k) ha hb a0 b0 (.inr ⟨_, rfl⟩) (by rw [List.length_append, List.length_append, List.length_cons, List.length_append, List.length_cons]; omega)]
    unfold tailV
    have c1 : cut1 101 (101 :: Lib.itoa k) = (Lib.itoa k, true) := rfl
    rw [c1]
    simp only [if_true]
    rw [exp_any k hk1 hk2]
    rfl
  · rw [hv]; exact scale_shift V z E _ hE
theorem layout_reads {d : List UInt8} {k : Int} (neg : Bool) (hd : d.all isDg = true) (h0 : d ≠ []) (hL : d.length ≤ 20) (k1 : -100 ≤ k) (k2 : k ≤ 100) : Reads (sgn neg ++ layoutV d k) neg (valL d) (k - d.length) := by
  have hp := List.length_pos_iff.2 h0
  unfold layoutV
  split
  · have b1 := or0_dg (drop_dg 1 hd)
    unfold pointV
    have ea : or0 (d.take 1) = d.take 1 := by
      unfold or0
      rw [if_neg (by intro e; exact h0 (by simpa using e))]
    rw [ea]
    have la : (d.take 1).length = 1 := by rw [List.length_take]; omega
    have a0 : d.take 1 ≠ [] := by intro e; rw [e] at la; cases la
    have ld : (d.drop 1).length = d.length - 1 := List.length_drop
    by_cases c : d.drop 1 = []
    · have eb : or0 (d.drop 1) = [48] := by unfold or0; rw [if_pos c]
      have et : d.take 1 = d := by have := List.take_append_drop 1 d; rw [c, List.append_nil] at this; exact this
      rw [c] at ld
      rw [eb, et]
      refine reads_exp (z := 1) hd (by decide) h0 (by simp) (by simp; omega) (by omega) (by omega) ?_ ?_
      · rw [valL_app]; simp [valL]
      · simp at ld ⊢; omega
    · have eb : or0 (d.drop 1) = d.drop 1 := by unfold or0; rw [if_neg c]
      rw [eb] at b1 ⊢
      refine reads_exp (z := 0) (take_dg 1 hd) b1.1 a0 b1.2.1 (by omega) (by omega) (by omega) ?_ ?_
      · rw [List.take_append_drop, Nat.pow_zero, Nat.mul_one]
      · rw [ld]; omega
  · split
    · unfold pointV
      have ea : or0 ([] : List UInt8) = [48] := rfl
      have eb : or0 (List.replicate (-k).toNat 48 ++ d) = List.replicate (-k).toNat 48 ++ d := by
        unfold or0; rw [if_neg (by simp [h0])]
      rw [ea, eb]
      refine reads_plain (z := 0) (by decide) (by rw [List.all_append, zeros_dg, hd]; rfl) (by simp) (by simp [h0]) (by rw [List.length_append, List.length_replicate, List.length_singleton]; omega) ?_ ?_
      · show valL (48 :: (List.replicate (-k).toNat 48 ++ d)) = _
        rw [valL_zero, valL_app, valL_zeros, Nat.zero_mul, Nat.zero_add, Nat.pow_zero, Nat.mul_one]
      · rw [List.length_append, List.length_replicate]; omega
    · split
      · unfold pointV
        have ea : or0 (d ++ List.replicate (k - d.length).toNat 48) = d ++ List.replicate (k - d.length).toNat 48 := by
          unfold or0; rw [if_neg (by simp [h0])]
        have eb : or0 ([] : List UInt8) = [48] := rfl
        rw [ea, eb]
        refine reads_plain (z := (k - d.length).toNat + 1) (by rw [List.all_append, zeros_dg, hd]; rfl) (by decide) (by simp [h0]) (by simp) (by rw [List.length_append, List.length_replicate, List.length_singleton]; omega) ?_ ?_
        · rw [valL_app, valL_app, valL_zeros, List.length_replicate, Nat.add_zero, Nat.pow_succ, Nat.mul_assoc]; simp [valL]
        · simp; omega
      · unfold pointV
        have la : (d.take k.toNat).length = k.toNat := by rw [List.length_take]; omega
        have a0 : d.take k.toNat ≠ [] := by intro e; rw [e] at la; simp at la; omega
        have ea : or0 (d.take k.toNat) = d.take k.toNat := by unfold or0; rw [if_neg a0]
        have ld : (d.drop k.toNat).length = d.length - k.toNat := List.length_drop
        rw [ea]
        by_cases c : d.drop k.toNat = []
        · have eb : or0 (d.drop k.toNat) = [48] := by unfold or0; rw [if_pos c]
          have et : d.take k.toNat = d := by have := List.take_append_drop k.toNat d; rw [c, List.append_nil] at this; exact this
          rw [c] at ld
          rw [eb, et]
          refine reads_plain (z := 1) hd (by decide) h0 (by simp) (by simp; omega) ?_ ?_
          · rw [valL_app]; simp [valL]
          · simp at ld ⊢; omega
        · have eb : or0 (d.drop k.toNat) = d.drop k.toNat := by unfold or0; rw [if_neg c]
          rw [eb]
          refine reads_plain (z := 0) (take_dg _ hd) (drop_dg _ hd) a0 c (by omega) ?_ ?_
          · rw [List.take_append_drop, Nat.pow_zero, Nat.mul_one]
          · rw [ld]; omega
end Go.Proofs.YthmndafjogndaaaGreatDoor
