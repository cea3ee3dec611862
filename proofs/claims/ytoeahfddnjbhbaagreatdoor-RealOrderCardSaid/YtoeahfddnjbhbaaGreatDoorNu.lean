/- Layer 2: numeric strings rounded: what lies in memory (no program here). -/
import Derived.Test.YtoeahfddnjbhbaaGreatDoorGa
import Derived.Lib.ConvBytes
namespace Go.Proofs.YtoeahfddnjbhbaaGreatDoor
open Go.RowKit

/-- The memory of numeral.rounded: the numeral, the result, two naturals, the digits' bytes. -/
structure NW (w wr : World) (neg : Bool) (d : ByteArray) (sc : Int) (A B : Nat) : Prop where
  n0 : wr.cell? ⟨w.heap.size, 0, none⟩ = some (.bool neg)
  n2 : wr.cell? ⟨w.heap.size, 2, none⟩ = some (.int .i64 sc)
  r0 : wr.cell? ⟨w.heap.size + 1, 0, none⟩ = some (.int .i64 0)
  r1 : wr.cell? ⟨w.heap.size + 1, 1, none⟩ = some (.int .i64 0)
  rf : ∀ j, wr.frozen? ⟨w.heap.size + 1, j, none⟩ = false
  a : Six wr (w.heap.size + 1 + 1) (L A)
  b : Six wr (w.heap.size + 1 + 1 + 1) (L B)
  by' : ∀ j, j < d.size → wr.cell? ⟨w.heap.size + 1 + 1 + 1 + 1, j, none⟩ = some (.int .u8 (d.data.toList.getD j 0).toNat)
  big : w.heap.size + 1 + 1 + 1 + 1 < wr.heap.size
  x : Ext w wr
theorem NW.later {w wr wz : World} {neg : Bool} {d : ByteArray} {sc : Int} {A B : Nat} (h : NW w wr neg d sc A B) (hx : Ext wr wz) : NW w wz neg d sc A B := by
  have hb := h.big
  exact ⟨(hx.cell _ (by omega)).trans h.n0, (hx.cell _ (by omega)).trans h.n2, (hx.cell _ (by omega)).trans h.r0, (hx.cell _ (by omega)).trans h.r1, fun j => (hx.froz _ (by omega)).trans (h.rf j),
    h.a.later hx, h.b.later hx, fun j hj => (hx.cell _ (by omega)).trans (h.by' j hj), by have := hx.size; omega, h.x.trans hx⟩
theorem NW.of_eq {w wr : World} {neg : Bool} {d : ByteArray} {sc : Int} {A B A' B' : Nat} (h : NW w wr neg d sc A B) (ha : ∀ j, j < 6 → L A' j = L A j) (hb : ∀ j, j < 6 → L B' j = L B j) : NW w wr neg d sc A' B' :=
  ⟨h.n0, h.n2, h.r0, h.r1, h.rf, h.a.of_eq ha, h.b.of_eq hb, h.by', h.big, h.x⟩
theorem cell_other {w : World} {b c k j : Nat} {v : Value} (hn : b ≠ c) : (w.setCell ⟨c, k, none⟩ v).cell? ⟨b, j, none⟩ = w.cell? ⟨b, j, none⟩ := by
  apply World.cell?_setCell_other; intro e2; simp at e2; try exact hn e2.1.symm
theorem cell_put {w : World} {b c j : Nat} {Y : Nat → Nat} (hn : b ≠ c) : ((((((w.setCell ⟨c, 0, none⟩ (.int .u64 (Y 0))).setCell ⟨c, 1, none⟩ (.int .u64 (Y 1))).setCell ⟨c, 2, none⟩ (.int .u64 (Y 2))).setCell ⟨c, 3, none⟩ (.int .u64 (Y 3))).setCell ⟨c, 4, none⟩ (.int .u64 (Y 4))).setCell ⟨c, 5, none⟩ (.int .u64 (Y 5))).cell? ⟨b, j, none⟩ = w.cell? ⟨b, j, none⟩ := by
  rw [cell_other hn, cell_other hn, cell_other hn, cell_other hn, cell_other hn, cell_other hn]
theorem froz_put {w : World} {b c j : Nat} {Y : Nat → Nat} : ((((((w.setCell ⟨c, 0, none⟩ (.int .u64 (Y 0))).setCell ⟨c, 1, none⟩ (.int .u64 (Y 1))).setCell ⟨c, 2, none⟩ (.int .u64 (Y 2))).setCell ⟨c, 3, none⟩ (.int .u64 (Y 3))).setCell ⟨c, 4, none⟩ (.int .u64 (Y 4))).setCell ⟨c, 5, none⟩ (.int .u64 (Y 5))).frozen? ⟨b, j, none⟩ = w.frozen? ⟨b, j, none⟩ := by
  simp only [World.frozen?_setCell]
theorem size_put {w : World} {c : Nat} {Y : Nat → Nat} : ((((((w.setCell ⟨c, 0, none⟩ (.int .u64 (Y 0))).setCell ⟨c, 1, none⟩ (.int .u64 (Y 1))).setCell ⟨c, 2, none⟩ (.int .u64 (Y 2))).setCell ⟨c, 3, none⟩ (.int .u64 (Y 3))).setCell ⟨c, 4, none⟩ (.int .u64 (Y 4))).setCell ⟨c, 5, none⟩ (.int .u64 (Y 5))).heap.size = w.heap.size := by simp
theorem NW.putA {w wr : World} {neg : Bool} {d : ByteArray} {sc : Int} {A B : Nat} (h : NW w wr neg d sc A B) (A' : Nat) {c : Nat} (hc : c = w.heap.size + 1 + 1) {Y : Nat → Nat} (hY : Y = L A') : NW w ((((((wr.setCell ⟨c, 0, none⟩ (.int .u64 (Y 0))).setCell ⟨c, 1, none⟩ (.int .u64 (Y 1))).setCell ⟨c, 2, none⟩ (.int .u64 (Y 2))).setCell ⟨c, 3, none⟩ (.int .u64 (Y 3))).setCell ⟨c, 4, none⟩ (.int .u64 (Y 4))).setCell ⟨c, 5, none⟩ (.int .u64 (Y 5))) neg d sc A' B := by
  subst hY
  subst hc
  exact ⟨(cell_put (by omega)).trans h.n0, (cell_put (by omega)).trans h.n2, (cell_put (by omega)).trans h.r0, (cell_put (by omega)).trans h.r1, fun j => froz_put.trans (h.rf j),
    h.a.put _, h.b.put_other (by omega), fun j hj => (cell_put (by omega)).trans (h.by' j hj), by rw [size_put]; exact h.big, h.x.put (by omega)⟩
theorem NW.putB {w wr : World} {neg : Bool} {d : ByteArray} {sc : Int} {A B : Nat} (h : NW w wr neg d sc A B) (B' : Nat) {c : Nat} (hc : c = w.heap.size + 1 + 1 + 1) {Y : Nat → Nat} (hY : Y = L B') : NW w ((((((wr.setCell ⟨c, 0, none⟩ (.int .u64 (Y 0))).setCell ⟨c, 1, none⟩ (.int .u64 (Y 1))).setCell ⟨c, 2, none⟩ (.int .u64 (Y 2))).setCell ⟨c, 3, none⟩ (.int .u64 (Y 3))).setCell ⟨c, 4, none⟩ (.int .u64 (Y 4))).setCell ⟨c, 5, none⟩ (.int .u64 (Y 5))) neg d sc A B' := by
  subst hY
  subst hc
  exact ⟨(cell_put (by omega)).trans h.n0, (cell_put (by omega)).trans h.n2, (cell_put (by omega)).trans h.r0, (cell_put (by omega)).trans h.r1, fun j => froz_put.trans (h.rf j),
    h.a.put_other (by omega), h.b.put _, fun j hj => (cell_put (by omega)).trans (h.by' j hj), by rw [size_put]; exact h.big, h.x.put (by omega)⟩

theorem decF_snoc (l : List UInt8) (c : UInt8) : decF (l ++ [c]) = decN (decF l) c := by unfold decF; rw [List.foldl_append]; rfl
theorem decN_place (n : Nat) (c : UInt8) {j : Nat} (h : j < 6) : L (n * 10 + (c.toNat - 48)) j = L (decN n c) j := by
  unfold decN
  rw [L_mod _ h, ← L_mod (n * 10 + (c.toNat - 48)) h, ← L_mod (n * 10 % M384 + (c.toNat - 48)) h, Nat.mod_add_mod]
theorem decF_lt (l : List UInt8) : decF l < N6 := by
  rcases List.eq_nil_or_concat l with h | ⟨l', c, h⟩
  · subst h; decide +kernel
  · subst h; rw [List.concat_eq_append, decF_snoc]; exact mod_N6 _
theorem decF_take (d : ByteArray) (k : Nat) (h : k < d.size) : decF (d.data.toList.take (k + 1)) = decN (decF (d.data.toList.take k)) (d.data.toList.getD k 0) := by
  have h' : k < d.data.toList.length := by simpa using h
  rw [List.take_succ_eq_append_getElem h', decF_snoc]
  congr 1
  rw [List.getD_eq_getElem?_getD, List.getElem?_eq_getElem h']; rfl
theorem L_small (v : Nat) (h : v < 18446744073709551616) : L v 0 = v ∧ L v 1 = 0 ∧ L v 2 = 0 ∧ L v 3 = 0 ∧ L v 4 = 0 ∧ L v 5 = 0 :=
  ⟨limb_small h, limb_small' h (by omega), limb_small' h (by omega), limb_small' h (by omega), limb_small' h (by omega), limb_small' h (by omega)⟩
end Go.Proofs.YtoeahfddnjbhbaaGreatDoor
