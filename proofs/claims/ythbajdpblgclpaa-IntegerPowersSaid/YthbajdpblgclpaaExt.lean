/- 'Ext w w'': what there was in w is in w' as it was; new blocks and draws may have come. -/
import Derived.WalkKit
import Derived.ProofKit
import Derived.WalkSmall
namespace Go.Proofs.Ythbajdpblgclpaa
open Go.RowKit

structure Ext (w w' : World) : Prop where
  bel : Below w.heap.size w w'
  fro : ∀ a, w'.frozen? a = w.frozen? a

theorem Ext.refl (w : World) : Ext w w := ⟨Below.refl _ _, fun _ => rfl⟩
theorem Ext.trans {a b c : World} (h : Ext a b) (k : Ext b c) : Ext a c :=
  ⟨h.bel.trans (k.bel.mono h.bel.size), fun x => (k.fro x).trans (h.fro x)⟩
theorem Ext.drewN {a w : World} (h : Ext a w) (n : Nat) : Ext a (w.drewN n) := ⟨below_drewN h.bel n, h.fro⟩
theorem Ext.drew {a w : World} (h : Ext a w) : Ext a w.drew := ⟨h.bel.drew, h.fro⟩
theorem Ext.alloc {a w : World} (h : Ext a w) (c : Array Value) (t : TypeId) : Ext a (w.alloc (.cells c t)) :=
  ⟨h.bel.alloc h.bel.size _, fun x => (((Grown.refl w).alloc c t).2.1 x).trans (h.fro x)⟩
theorem Ext.setCell {a w : World} (h : Ext a w) {p : Addr} (hp : a.heap.size ≤ p.block) (v : Value) : Ext a (w.setCell p v) :=
  ⟨h.bel.setCell hp v, fun x => (World.frozen?_setCell _ _ _ _).trans (h.fro x)⟩
theorem Ext.grown {a w : World} (h : Ext a w) : Grown a w := ⟨h.bel.frame _, h.fro, h.bel.size⟩
theorem Ext.cell {a w : World} (h : Ext a w) {b : Nat} (o : Nat) (hb : b < a.heap.size) : w.cell? ⟨b, o, none⟩ = a.cell? ⟨b, o, none⟩ := h.bel.cell (p := ⟨b, o, none⟩) hb
theorem Ext.froz {a w : World} (h : Ext a w) (b o : Nat) : w.frozen? ⟨b, o, none⟩ = a.frozen? ⟨b, o, none⟩ := h.fro _
theorem Ext.size {a w : World} (h : Ext a w) : a.heap.size ≤ w.heap.size := h.bel.size
theorem Ext.of_eq {a w : World} (h : a = w) : Ext a w := h ▸ Ext.refl a
end Go.Proofs.Ythbajdpblgclpaa
