/- 'Ext w w'': what there was in w is in w' as it was; new blocks and draws may have come. -/
import Derived.WalkKit
import Derived.ProofKit
import Derived.WalkSmall
namespace Go.Proofs.YtoeahfddnjbhbaaGreatDoor
open Go.RowKit

structure Ext (w w' : World) : Prop where
  bel : Below w.heap.size w w'

theorem Ext.refl (w : World) : Ext w w := ⟨Below.refl _ _⟩
theorem Ext.trans {a b c : World} (h : Ext a b) (k : Ext b c) : Ext a c := ⟨h.bel.trans (k.bel.mono h.bel.size)⟩
theorem Ext.drewN {a w : World} (h : Ext a w) (n : Nat) : Ext a (w.drewN n) := ⟨below_drewN h.bel n⟩
theorem Ext.drew {a w : World} (h : Ext a w) : Ext a w.drew := ⟨h.bel.drew⟩
theorem Ext.alloc {a w : World} (h : Ext a w) (o : Obj) : Ext a (w.alloc o) := ⟨h.bel.alloc h.bel.size _⟩
theorem Ext.setCell {a w : World} (h : Ext a w) {p : Addr} (hp : a.heap.size ≤ p.block) (v : Value) : Ext a (w.setCell p v) := ⟨h.bel.setCell hp v⟩
theorem Ext.cell {a w : World} (h : Ext a w) {b : Nat} (o : Nat) (hb : b < a.heap.size) : w.cell? ⟨b, o, none⟩ = a.cell? ⟨b, o, none⟩ := h.bel.cell (p := ⟨b, o, none⟩) hb
theorem Ext.froz {a w : World} (h : Ext a w) {b : Nat} (o : Nat) (hb : b < a.heap.size) : w.frozen? ⟨b, o, none⟩ = a.frozen? ⟨b, o, none⟩ := h.bel.frozen (p := ⟨b, o, none⟩) hb
theorem Ext.size {a w : World} (h : Ext a w) : a.heap.size ≤ w.heap.size := h.bel.size
theorem Ext.of_eq {a w : World} (h : a = w) : Ext a w := h ▸ Ext.refl a
theorem Ext.cells {a w : World} (h : Ext a w) : (∀ b o, b < a.heap.size → w.cell? ⟨b, o, none⟩ = a.cell? ⟨b, o, none⟩) ∧ (∀ b o, b < a.heap.size → w.frozen? ⟨b, o, none⟩ = a.frozen? ⟨b, o, none⟩) :=
  ⟨fun _ o hb => h.cell o hb, fun _ o hb => h.froz o hb⟩
end Go.Proofs.YtoeahfddnjbhbaaGreatDoor
