/- Layer 2: the copy within a natural. -/
import Derived.Test.YtoeahfddnjbhbaaGreatDoorNh
import Derived.Laws.CopyOwn
import Derived.Deep.RegionLaw
namespace Go.Proofs.YtoeahfddnjbhbaaGreatDoor
open Go.RowKit

theorem run_copy6 (w : World) (b : Nat) (X : Nat → Nat) (h : Blk w b X) (ty : TypeId) :
    (Builtin.copy_ #[175, 175] ty #[.slice (some ⟨b, 1, none⟩) 5 5, .slice (some ⟨b, 0, none⟩) 6 6]).run Tryz.prog w = .ok (goInt 5) (w.setRow b (six (upX X))) := by
  have hs := h.six
  obtain ⟨T, hh⟩ := h
  have := run_copy_row (P := Tryz.prog) w 175 175 ty 71 b 1 5 5 ⟨b, 0, none⟩ 6 6 (six X) T [.int .u64 (X 0), .int .u64 (X 1), .int .u64 (X 2), .int .u64 (X 3), .int .u64 (X 4)]
    Tryz.underlying175 (by kernel_rfl) hh rfl (fun j v hj => by
      have hj5 : j < 5 := by
        rcases Nat.lt_or_ge j 5 with h | h
        · exact h
        · rw [List.getElem?_eq_none (by simpa using h)] at hj; cases hj
      have := hs.cell j (by omega)
      have e : (⟨b, 0, none⟩ : Addr).add j = ⟨b, j, none⟩ := by simp [Addr.add]; try omega
      rw [e, this]
      have : j = 0 ∨ j = 1 ∨ j = 2 ∨ j = 3 ∨ j = 4 := by omega
      rcases this with rfl | rfl | rfl | rfl | rfl <;> simpa using hj) (by simp [six]) (by simp [Value.oneCell'])
  exact this

theorem step_copy_run {P : Program} {ops : Array Oper} {o : Oper} {a : Act} {w : World} {K : Act → World → Prop} {Q : Exit → Act → World → Prop} {E : Prop} (hgd : o.guard = none) (d s : Operand) (t t' : TypeId)
    (ho : o.op = .call { callee := .builtin .copy, args := #[d, s], argTypes := #[t, t'] }) (v u : Value) (hd : a.eval d = v) (hs : a.eval s = u) {v' : Value} {w' : World}
    (hr : (Builtin.copy_ #[t, t'] o.type #[v, u]).run P w = .ok v' w') (h : K (a.put o.dst v') w') :
    if Region.wanted o (yielded ops a.tmps) = true then Oper.wp P o a w K Q else E := by
  have hw : Region.wanted o (yielded ops a.tmps) = true := by simp [Region.wanted, hgd]
  rw [if_pos hw]
  exact Lib.wp_copy_run w d s t t' ho v u hd hs hr h
end Go.Proofs.YtoeahfddnjbhbaaGreatDoor
