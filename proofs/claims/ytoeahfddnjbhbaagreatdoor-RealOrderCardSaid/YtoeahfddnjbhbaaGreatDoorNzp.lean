/- Layer 2: a point between two strings of digits. -/
import Derived.Test.YtoeahfddnjbhbaaGreatDoorNzo
import Derived.Test.YtoeahfddnjbhbaaGreatDoorNzc
import Derived.Test.YtoeahfddnjbhbaaGreatDoorGd
namespace Go.Proofs.YtoeahfddnjbhbaaGreatDoor
open Go.RowKit

def or0 (l : List UInt8) : List UInt8 := if l = [] then [48] else l
def pointV (a b : List UInt8) : List UInt8 := or0 a ++ [46] ++ or0 b

theorem point_00 (a : ByteArray) (a1 : ¬ a.toList = []) (a2 : a.toList.isEmpty = false) (a3 : a.size ≤ 1000) (b : ByteArray) (b1 : ¬ b.toList = []) (b2 : b.toList.isEmpty = false) (b3 : b.size ≤ 1000) (w : World) :
    Calls Tryz.prog 124 #[.string a, .string b] w fun e w' => e = .returned (.string (a ++ (⟨#[46]⟩ : ByteArray) ++ b)) ∧ Ext w w' := by
  have zl : (⟨#[]⟩ : ByteArray).toList = [] := by rw [Lib.toList_data]
  have zs : (⟨#[]⟩ : ByteArray).size = 0 := rfl
  go_enter Tryz.func124, Tryz.ntmps124
  go_wp2
  refine bodyPost_ret (v := .string (a ++ (⟨#[46]⟩ : ByteArray) ++ b)) ?_ rfl ⟨rfl, Ext.refl _⟩
  simp [results, Tryz.results124, go_sem]
theorem point_01 (a : ByteArray) (a1 : ¬ a.toList = []) (a2 : a.toList.isEmpty = false) (a3 : a.size ≤ 1000) (w : World) :
    Calls Tryz.prog 124 #[.string a, .string ⟨#[]⟩] w fun e w' => e = .returned (.string (a ++ (⟨#[46]⟩ : ByteArray) ++ (⟨#[48]⟩ : ByteArray))) ∧ Ext w w' := by
  have zl : (⟨#[]⟩ : ByteArray).toList = [] := by rw [Lib.toList_data]
  have zs : (⟨#[]⟩ : ByteArray).size = 0 := rfl
  go_enter Tryz.func124, Tryz.ntmps124
  go_wp2
  refine bodyPost_ret (v := .string (a ++ (⟨#[46]⟩ : ByteArray) ++ (⟨#[48]⟩ : ByteArray))) ?_ rfl ⟨rfl, Ext.refl _⟩
  simp [results, Tryz.results124, go_sem]
theorem point_10 (b : ByteArray) (b1 : ¬ b.toList = []) (b2 : b.toList.isEmpty = false) (b3 : b.size ≤ 1000) (w : World) :
    Calls Tryz.prog 124 #[.string ⟨#[]⟩, .string b] w fun e w' => e = .returned (.string ((⟨#[48]⟩ : ByteArray) ++ (⟨#[46]⟩ : ByteArray) ++ b)) ∧ Ext w w' := by
  have zl : (⟨#[]⟩ : ByteArray).toList = [] := by rw [Lib.toList_data]
  have zs : (⟨#[]⟩ : ByteArray).size = 0 := rfl
  go_enter Tryz.func124, Tryz.ntmps124
  go_wp2
  refine bodyPost_ret (v := .string ((⟨#[48]⟩ : ByteArray) ++ (⟨#[46]⟩ : ByteArray) ++ b)) ?_ rfl ⟨rfl, Ext.refl _⟩
  simp [results, Tryz.results124, go_sem]
theorem point_11  (w : World) :
    Calls Tryz.prog 124 #[.string ⟨#[]⟩, .string ⟨#[]⟩] w fun e w' => e = .returned (.string ((⟨#[48]⟩ : ByteArray) ++ (⟨#[46]⟩ : ByteArray) ++ (⟨#[48]⟩ : ByteArray))) ∧ Ext w w' := by
  have zl : (⟨#[]⟩ : ByteArray).toList = [] := by rw [Lib.toList_data]
  have zs : (⟨#[]⟩ : ByteArray).size = 0 := rfl
  go_enter Tryz.func124, Tryz.ntmps124
  go_wp2
  refine bodyPost_ret (v := .string ((⟨#[48]⟩ : ByteArray) ++ (⟨#[46]⟩ : ByteArray) ++ (⟨#[48]⟩ : ByteArray))) ?_ rfl ⟨rfl, Ext.refl _⟩
  simp [results, Tryz.results124, go_sem]
theorem bs_cases (l : List UInt8) : (l = [] ∧ bs l = ⟨#[]⟩) ∨ (l ≠ [] ∧ ¬ (bs l).toList = [] ∧ (bs l).toList.isEmpty = false) := by
  by_cases h : l = []
  · subst h; exact .inl ⟨rfl, rfl⟩
  · exact .inr ⟨h, bs_emp h⟩
theorem point_any (a b : List UInt8) (ha : a.length ≤ 1000) (hb : b.length ≤ 1000) (w : World) :
    Calls Tryz.prog 124 #[.string (bs a), .string (bs b)] w fun e w' => e = .returned (.string (bs (pointV a b))) ∧ Ext w w' := by
  have e0 : bs (pointV a b) = bs (or0 a) ++ (⟨#[46]⟩ : ByteArray) ++ bs (or0 b) := by
    unfold pointV; rw [← bs_append, ← bs_append]; rfl
  rw [e0]
  unfold or0
  rcases bs_cases a with ⟨h, h2⟩ | ⟨h, h2, h3⟩ <;> rcases bs_cases b with ⟨k, k2⟩ | ⟨k, k2, k3⟩
  · rw [if_pos h, if_pos k, h2, k2]; exact point_11 w
  · rw [if_pos h, if_neg k, h2]; exact point_10 (bs b) k2 k3 hb w
  · rw [if_neg h, if_pos k, k2]; exact point_01 (bs a) h2 h3 ha w
  · rw [if_neg h, if_neg k]; exact point_00 (bs a) h2 h3 ha (bs b) k2 k3 hb w
end Go.Proofs.YtoeahfddnjbhbaaGreatDoor
