/- Layer 2: powers of ten and of two. -/
import Derived.Test.YtoeahfddnjbhbaaGreatDoorNf
import Derived.Lib.LaidTab
import Derived.Deep.RegionHeld3
import Derived.Deep.RegionWith
import Derived.Lib.ItoaMem
namespace Go.Proofs.YtoeahfddnjbhbaaGreatDoor
open Go.RowKit

/-- The program's table of powers of ten lies as its initialiser lays it. -/
def PowR (w : World) : Prop := Lib.TabIs Tryz.prog w "manorboy/real.powersOf10" .u64 Lib.pow10Tab
theorem PowR.later {w w' : World} (h : PowR w) (hx : Ext w w') : PowR w' := by
  unfold PowR Lib.TabIs World.var? at *
  cases hg : Tryz.prog.globalNamed "manorboy/real.powersOf10" with
  | none => simp [hg] at h
  | some g =>
    simp only [hg, Option.bind_some] at h ⊢
    have hlt : g < w.heap.size := by
      rcases Nat.lt_or_ge g w.heap.size with h' | h'
      · exact h'
      · rw [Array.getElem?_eq_none h'] at h; simp at h
    rw [hx.bel.block g hlt]
    exact h
def tp (q : Nat) : Nat := 10 ^ q
theorem tp_zero : tp 0 = 1 := rfl
theorem tp_add (a b : Nat) : tp (a + b) = tp a * tp b := Nat.pow_add _ _ _
theorem pow_tab : ∀ p : Fin 20, Lib.pow10Tab.getD p.val 0 = ((10 ^ p.val : Nat) : Int) := by decide +kernel
theorem PowR.cell {w : World} (h : PowR w) (p : Nat) (hp : p < 20) : w.cell? ⟨0, p, none⟩ = some (.int .u64 (tp p)) := by
  have := Lib.TabIs.cell h (g := 0) (by kernel_rfl) p (by simpa [Lib.pow10Tab] using hp)
  rw [this, pow_tab ⟨p, hp⟩]; rfl
theorem pow_lt (p : Nat) (hp : p < 20) : tp p < 18446744073709551616 :=
  Nat.lt_of_le_of_lt (Nat.pow_le_pow_right (by omega) (show p ≤ 19 by omega)) (by decide)

set_option maxHeartbeats 2000000 in
theorem timesPower_any (n p : Nat) (hp : p ≤ 9223372036854775807) (w : World) (ht : PowR w) :
    Calls Tryz.prog 121 #[.agg #[.int .u64 (L n 0), .int .u64 (L n 1), .int .u64 (L n 2), .int .u64 (L n 3), .int .u64 (L n 4), .int .u64 (L n 5)], .int .i64 p] w fun e w' => e = .returned (.agg #[.int .u64 (L (n * tp p) 0), .int .u64 (L (n * tp p) 1), .int .u64 (L (n * tp p) 2), .int .u64 (L (n * tp p) 3), .int .u64 (L (n * tp p) 4), .int .u64 (L (n * tp p) 5)]) ∧ Ext w w' := by
  have T := Lib.hid ht
  clear ht
  go_enter Tryz.func121, Tryz.ntmps121
  go_wp2
  go_loopw [1] (fun q wr => ∃ k : Nat, k ≤ p ∧ q = .int .i64 k ∧ Six wr w.heap.size (L (n * tp (p - k))) ∧ Six wr (w.heap.size + 1) (fun _ => 0) ∧ Ext w wr) (fun q _ => (intOf q).toNat)
  case atStart =>
    have s1 := (six_new w (L n) 124).of_eq (Y := L (n * tp (p - p))) (fun j _ => by rw [Nat.sub_self, tp_zero, Nat.mul_one])
    have s2 := six_new (w.alloc (.cells #[.int .u64 (L n 0), .int .u64 (L n 1), .int .u64 (L n 2), .int .u64 (L n 3), .int .u64 (L n 4), .int .u64 (L n 5)] 124)) (fun _ => 0) 124
    simp only [World.size_alloc] at s2
    exact ⟨p, by omega, rfl, s1.later ((Ext.refl _).alloc _), s2, ((Ext.refl _).alloc _).alloc _⟩
  case round =>
    obtain ⟨k, hk, rfl, hs, hr, hx⟩ := hrel
    have hT := T.out.later hx
    by_cases hlt : 19 < k
    · have hc := hT.cell 19 (by omega)
      have hl := pow_lt 19 (by omega)
      have hstep : n * tp (p - k) * tp 19 = n * tp (p - (k - 19)) := by
        rw [show p - (k - 19) = (p - k) + 19 by omega, tp_add, Nat.mul_assoc]
      have ST := Lib.hid hstep
      clear hstep
      obtain ⟨c0, c1, c2, c3, c4, c5⟩ := hs.cells
      have f0 := hs.froz
      have S := Lib.hid hs
      have R := Lib.hid hr
      have X := Lib.hid hx
      clear hs hr hx hT
      go_wp2
      go_region_with ((go_at_call 119; refine (times_any _ _ hl _).mono ?_; rintro e w2 ⟨rfl, hx2⟩; have HX := (show Ext wr w2 from Ext.trans ((Ext.refl wr).drewN _) hx2); clear hx2; have S2 := S.out.later HX; obtain ⟨e0, e1, e2, e3, e4, e5⟩ := S2.cells; have h0 := S2.froz; have S3 := Lib.hid S2; have R2 := Lib.hid (R.out.later HX); have X2 := Lib.hid (X.out.trans HX); clear S2 HX))
      all_goals
        go_wp2
        go_roundw
        case rel => exact ⟨k - 19, by omega, by rw [show ((k - 19 : Nat) : Int) = (k : Int) - 19 by omega], by rw [← ST.out]; exact S3.out.put _, R2.out.put_other (by omega), X2.out.put (Nat.le_refl _)⟩
        case measure => simp [intOf]; omega
    · have hc := hT.cell k (by omega)
      have hl := pow_lt k (by omega)
      have hstep : n * tp (p - k) * tp k = n * tp p := by
        rw [show tp p = tp (p - k + k) by rw [Nat.sub_add_cancel hk], tp_add, Nat.mul_assoc]
      have ST := Lib.hid hstep
      clear hstep
      obtain ⟨c0, c1, c2, c3, c4, c5⟩ := hs.cells
      have i0 : (0 : Int) ≤ k := by omega
      have i1 : (k : Int) < 20 := by omega
      have R := Lib.hid hr
      have X := Lib.hid hx
      clear hs hr hx hT
      go_wp2
      go_region_with ((go_at_call 119; refine (times_any _ _ hl _).mono ?_; rintro e w2 ⟨rfl, hx2⟩; have HX := (show Ext wr w2 from Ext.trans ((Ext.refl wr).drewN _) hx2); clear hx2; have S2 := R.out.later HX; obtain ⟨e0, e1, e2, e3, e4, e5⟩ := S2.cells; have h0 := S2.froz; have X2 := Lib.hid (X.out.trans HX); clear S2 HX))
      all_goals
        go_wp2
        refine bodyPost_ret (v := .agg #[.int .u64 (L (n * tp p) 0), .int .u64 (L (n * tp p) 1), .int .u64 (L (n * tp p) 2), .int .u64 (L (n * tp p) 3), .int .u64 (L (n * tp p) 4), .int .u64 (L (n * tp p) 5)]) ?_ rfl ⟨rfl, ?_⟩
        · rw [← ST.out]; simp [results, Tryz.results121, go_sem, e0, e1, e2, e3, e4, e5]
        · exact X2.out.put (by omega)

end Go.Proofs.YtoeahfddnjbhbaaGreatDoor
