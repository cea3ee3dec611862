/- Layer 2: the law's digitsOf: where the first and the last digit that is not 0 are. -/
import Derived.Test.YthmndafjogndaaaGreatDoorKl
import Derived.Test.YthmndafjogndaaaGreatDoorGr
namespace Go.Proofs.YthmndafjogndaaaGreatDoor
open Go.RowKit

/-- The first and the last place of a digit that is not 0, up to an e. -/
def dgF : List UInt8 → Int → Int × Int → Int × Int
  | [], _, s => s
  | c :: l, i, s => if c = 101 then s else if 49 ≤ c.toNat ∧ c.toNat ≤ 57 then dgF l (i + 1) (if s.1 < 0 then i else s.1, i) else dgF l (i + 1) s
theorem bs_get (l : List UInt8) (k : Nat) (c : UInt8) (h : k < l.length) (hc : l[k] = c) (h' : k < (bs l).size) : (bs l)[k]'h' = c := by
  rw [← hc]; rfl
theorem ne101 {c : UInt8} (h : c ≠ 101) : ((c.toNat : Int) == 101) = false ∧ ¬ (c.toNat : Int) = 101 := by
  have : c.toNat ≠ 101 := fun e => h (UInt8.toNat_inj.1 (by rw [e]; rfl))
  exact ⟨by simp; omega, by omega⟩
theorem k_wrap {k : Nat} (h : k ≤ 1000) : IntKind.i64.wrap ((k : Int) + 1) = ((k + 1 : Nat) : Int) ∧ wrap64 ((k : Int) + 1) = ((k + 1 : Nat) : Int) := ⟨by rw [IntWalk.i64_in _ ⟨by omega, by omega⟩]; omega, by unfold wrap64; omega⟩
set_option maxRecDepth 100000 in
set_option maxHeartbeats 2000000 in
theorem digitsOf_any (l : List UInt8) (hl : l.length ≤ 500) (F G : Int) (hR : dgF l 0 (-1, -1) = (F, G)) (w : World) :
    Calls Tryz.prog 50 #[.string (bs l)] w fun e w' => e = .returned (.tuple #[.int .i64 F, .int .i64 G]) ∧ Ext w w' := by
  have hsz : (bs l).size = l.length := rfl
  have HR := Lib.hid hR
  clear hR
  go_enter Tryz.func50, Tryz.ntmps50
  go_wp2
  go_loopw [4, 5, 6] (fun a b i wr => ∃ (k : Nat) (f g : Int), k ≤ l.length ∧ a = .int .i64 f ∧ b = .int .i64 g ∧ i = .int .i64 (k : Int) ∧ Hid (dgF (l.drop k) k (f, g) = (F, G)) ∧ wr = w) (fun _ _ i _ => ((l.length : Int) - intOf i).toNat)
  case atStart => exact ⟨0, -1, -1, Nat.zero_le _, rfl, rfl, rfl, HR, rfl⟩
  case round =>
    obtain ⟨k, f, g, hk, rfl, rfl, rfl, HD, rfl⟩ := hrel
    by_cases hlt : k < l.length
    · have hd := HD.out
      rw [List.drop_eq_getElem_cons hlt] at hd
      obtain ⟨c, hc⟩ : ∃ c, l[k] = c := ⟨_, rfl⟩
      rw [hc] at hd
      have g0 : (k : Int) < ((bs l).size : Int) := by rw [hsz]; exact Int.ofNat_lt.2 hlt
      have g0' : (k : Int) < (l.length : Int) := Int.ofNat_lt.2 hlt
      have g1 : (0 : Int) ≤ (k : Int) := Int.natCast_nonneg _
      have g2 : k < (bs l).size := hlt
      have hget : ∀ h', (bs l)[k]'h' = c := fun h' => bs_get l k c hlt hc h'
      clear hc
      have HL := Lib.hid hlt
      have M := Lib.hid (show ((l.length : Int) - ((k + 1 : Nat) : Int)).toNat < ((l.length : Int) - (k : Int)).toNat by omega)
      obtain ⟨y1, y2⟩ := @k_wrap k (by omega)
      rw [dgF] at hd
      by_cases h101 : c = 101
      · rw [if_pos h101] at hd
        obtain ⟨rfl, rfl⟩ := Prod.mk.inj hd
        have e101 : (c.toNat : Int) = 101 := by rw [h101]; rfl
        have e102 : c.toNat = 101 := by rw [h101]; rfl
        clear hd hk hlt h101
        go_wp2
        go_ret2
        exact ⟨rfl, Ext.refl _⟩
      · rw [if_neg h101] at hd
        obtain ⟨n1, n2⟩ := ne101 h101
        by_cases hdg : 49 ≤ c.toNat ∧ c.toNat ≤ 57
        · rw [if_pos hdg] at hd
          have d1 : (c.toNat : Int) ≥ 49 := by omega
          have d2 : (c.toNat : Int) ≤ 57 := by omega
          by_cases hf : f < 0
          · simp only [if_pos hf] at hd
            have HD2 : Hid (dgF (l.drop (k + 1)) ((k + 1 : Nat) : Int) ((k : Int), (k : Int)) = (F, G)) := Lib.hid hd
            clear hd hk hlt HD hdg
            go_wp2
            go_roundw
            case rel => exact ⟨k + 1, k, k, HL.out, rfl, rfl, by first | rfl | go_num, HD2, by first | rfl | trivial⟩
            case measure => first | exact M.out | (simp [intOf]; have := M.out; omega)
          · simp only [if_neg hf] at hd
            have HD2 : Hid (dgF (l.drop (k + 1)) ((k + 1 : Nat) : Int) (f, (k : Int)) = (F, G)) := Lib.hid hd
            clear hd hk hlt HD hdg
            go_wp2
            go_roundw
            case rel => exact ⟨k + 1, f, k, HL.out, rfl, rfl, by first | rfl | go_num, HD2, by first | rfl | trivial⟩
            case measure => first | exact M.out | (simp [intOf]; have := M.out; omega)
        · rw [if_neg hdg] at hd
          have HD2 : Hid (dgF (l.drop (k + 1)) ((k + 1 : Nat) : Int) (f, g) = (F, G)) := Lib.hid hd
          by_cases d1 : (c.toNat : Int) ≥ 49
          · have d2 : ¬ (c.toNat : Int) ≤ 57 := by omega
            clear hd hk hlt HD hdg
            go_wp2
            go_roundw
            case rel => exact ⟨k + 1, f, g, HL.out, rfl, rfl, by first | rfl | go_num, HD2, by first | rfl | trivial⟩
            case measure => first | exact M.out | (simp [intOf]; have := M.out; omega)
          · clear hd hk hlt HD hdg
            go_wp2
            go_roundw
            case rel => exact ⟨k + 1, f, g, HL.out, rfl, rfl, by first | rfl | go_num, HD2, by first | rfl | trivial⟩
            case measure => first | exact M.out | (simp [intOf]; have := M.out; omega)
    · have e : k = l.length := Nat.le_antisymm hk (Nat.le_of_not_lt hlt)
      have hd := HD.out
      rw [e, List.drop_length] at hd
      obtain ⟨rfl, rfl⟩ := Prod.mk.inj hd
      have g0 : ¬ (k : Int) < ((bs l).size : Int) := by rw [hsz]; omega
      have g0' : ¬ (k : Int) < (l.length : Int) := by omega
      have g2 : ¬ k < (bs l).size := hlt
      clear hd hk
      go_wp2
      go_ret2
      exact ⟨rfl, Ext.refl _⟩
end Go.Proofs.YthmndafjogndaaaGreatDoor
