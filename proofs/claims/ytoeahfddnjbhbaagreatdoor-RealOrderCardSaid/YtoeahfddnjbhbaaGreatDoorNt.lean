/- Layer 2: guarded: a rounding that panics becomes ErrRange. -/
import Derived.Test.YtoeahfddnjbhbaaGreatDoorNp
import Derived.Defers
import Derived.Recover
import Derived.Laws.Pointers
import Derived.Outline
namespace Go.Proofs.YtoeahfddnjbhbaaGreatDoor
open Go.RowKit

theorem catch_panicking (b c : Nat) (x0 x1 x2 : Value) (u : TypeId) (pv : Value) (older : List PanicEntry) (w : World) (hbc : b ≠ c)
    (h0 : w.cell? ⟨b, 0, none⟩ = some x0) (h1 : w.cell? ⟨b, 1, none⟩ = some x1) (h2 : w.cell? ⟨c, 0, none⟩ = some x2)
    (z0 : w.frozen? ⟨b, 0, none⟩ = false) (z1 : w.frozen? ⟨b, 1, none⟩ = false) (z2 : w.frozen? ⟨c, 0, none⟩ = false) :
    CallsD Tryz.prog 111 #[.pointer (some ⟨b, 0, none⟩), .pointer (some ⟨c, 0, none⟩)] (.panicking ({ v := .iface u pv, recovered := false } :: older)) w fun e u' w' =>
      e = .returned (.tuple #[]) ∧ u' = .panicking ({ v := .iface u pv, recovered := true } :: older) ∧
        w' = ((w.setCell ⟨b, 0, none⟩ (.int .i64 0)).setCell ⟨b, 1, none⟩ (.int .i64 0)).setCell ⟨c, 0, none⟩ (.int .i64 3) := by
  have hcb : c ≠ b := fun e => hbc e.symm
  refine callsD_of_wpS Tryz.func111 rfl fun c₀ cs hu => ?_
  apply wpS_seq
  apply wpS_region
  simp [wpOpsS, go_sem, recoverD, hu, Tryz.ntmps111, Exit.thenS]
  refine wpS_cond (t := true) (by simp [Act.eval, Array.replicate]) ?_
  simp only [if_true]
  refine wpS_of_wp ?_
  have ht : (#[Value.pointer (some ⟨b, 0, none⟩), Value.pointer (some ⟨c, 0, none⟩)] ++ ((Array.replicate 3 undef).setIfInBounds 0 (Value.iface u pv)).setIfInBounds 1 (Value.bool true)) = #[Value.pointer (some ⟨b, 0, none⟩), Value.pointer (some ⟨c, 0, none⟩), .iface u pv, .bool true, undef] := rfl
  rw [ht]
  clear ht
  go_wp2
  simp [bodyPostS, results, Tryz.results111]

theorem catch_idle (p q : Addr) (w : World) :
    CallsD Tryz.prog 111 #[.pointer (some p), .pointer (some q)] .returning w fun e u' w' => e = .returned (.tuple #[]) ∧ u' = .returning ∧ w' = w := by
  refine callsD_of_wpS Tryz.func111 rfl fun c₀ cs hu => ?_
  apply wpS_seq
  apply wpS_region
  simp [wpOpsS, go_sem, recoverD, hu, Tryz.ntmps111, Exit.thenS]
  refine wpS_cond (t := false) (by simp [Act.eval, Array.replicate]) ?_
  simp only [Bool.false_eq_true, if_false]
  refine wpS_of_wp (wp_skip ?_)
  cases c₀
  simp_all [bodyPostS, results, Tryz.results111]

set_option maxHeartbeats 1000000 in
theorem guarded_ok (K : FuncId) (caps : Array Value) (m x : Int) (w : World) (hent : ∀ args w, (callFunc K args).run Tryz.prog w = .ok (.enter K args) w)
    (hop : ∀ u, Ext w u → Calls Tryz.prog K caps u fun e w' => e = .returned (.agg #[.int .i64 m, .int .i64 x]) ∧ Ext u w') :
    Calls Tryz.prog 82 #[.func (.func K) #[] caps] w fun e w' => e = .returned (.tuple #[.agg #[.int .i64 m, .int .i64 x], .int .i64 0]) ∧ Ext w w' := by
  have HOP := Lib.hid hop
  clear hop
  have hmf : ∀ (fn : Fn) (first cap : Array Value) (w : World), (Instr.makeFunc fn first cap).run Tryz.prog w = .ok (.func fn first cap) w := fun _ _ _ _ => rfl
  go_enter_defers Tryz.func82, Tryz.ntmps82
  go_wp2
  refine (HOP.out _ (((Ext.refl w).alloc _).alloc _)).mono ?_
  rintro e w1 ⟨rfl, hx⟩
  have s1 := hx.size
  simp at s1
  have c0 : w1.cell? ⟨w.heap.size, 0, none⟩ = some (.int .i64 0) := (hx.cell 0 (by simp; omega)).trans (by simp [go_sem])
  have c1 : w1.cell? ⟨w.heap.size, 1, none⟩ = some (.int .i64 0) := (hx.cell 1 (by simp; omega)).trans (by simp [go_sem])
  have c2 : w1.cell? ⟨w.heap.size + 1, 0, none⟩ = some (.int .i64 0) := (hx.cell 0 (by simp)).trans (by simp [go_sem])
  have f0 : w1.frozen? ⟨w.heap.size, 0, none⟩ = false := (hx.froz 0 (by simp; omega)).trans (by simp [go_sem])
  have f1 : w1.frozen? ⟨w.heap.size, 1, none⟩ = false := (hx.froz 1 (by simp; omega)).trans (by simp [go_sem])
  have f2 : w1.frozen? ⟨w.heap.size + 1, 0, none⟩ = false := (hx.froz 0 (by simp)).trans (by simp [go_sem])
  have X := Lib.hid ((((Ext.refl w).alloc (.cells #[.int .i64 0, .int .i64 0] 23)).alloc (.cells #[.int .i64 0] 24)).trans hx)
  clear hx s1
  go_wp2
  refine leaves_cons (f := 111) (args := #[.pointer (some ⟨w.heap.size, 0, none⟩), .pointer (some ⟨w.heap.size + 1, 0, none⟩)]) (by simp) (by simp [go_sem]) ?_
  refine (catch_idle _ _ _).mono ?_
  rintro e u' w'' ⟨rfl, rfl, rfl⟩
  have XX : Ext w (((w1.setCell ⟨w.heap.size, 0, none⟩ (.int .i64 m)).setCell ⟨w.heap.size, 1, none⟩ (.int .i64 x)).setCell ⟨w.heap.size + 1, 0, none⟩ (.int .i64 0)) :=
    ((X.out.setCell (Nat.le_refl _) _).setCell (Nat.le_refl _) _).setCell (by simp) _
  simp [Leaves, settle, results, Tryz.results82, go_sem, c0, c1, c2, XX]

set_option maxHeartbeats 1000000 in
theorem guarded_range (K : FuncId) (caps : Array Value) (w : World) (hent : ∀ args w, (callFunc K args).run Tryz.prog w = .ok (.enter K args) w)
    (hop : ∀ u, Ext w u → Calls Tryz.prog K caps u fun e w' => e = RangePanic ∧ Ext u w') :
    Calls Tryz.prog 82 #[.func (.func K) #[] caps] w fun e w' => e = .returned (.tuple #[.agg #[.int .i64 0, .int .i64 0], .int .i64 3]) ∧ Ext w w' := by
  have HOP := Lib.hid hop
  clear hop
  have hmf : ∀ (fn : Fn) (first cap : Array Value) (w : World), (Instr.makeFunc fn first cap).run Tryz.prog w = .ok (.func fn first cap) w := fun _ _ _ _ => rfl
  go_enter_defers Tryz.func82, Tryz.ntmps82
  go_wp2
  refine (HOP.out _ (((Ext.refl w).alloc _).alloc _)).mono ?_
  rintro e w1 ⟨rfl, hx⟩
  have s1 := hx.size
  simp at s1
  have c0 : w1.cell? ⟨w.heap.size, 0, none⟩ = some (.int .i64 0) := (hx.cell 0 (by simp; omega)).trans (by simp [go_sem])
  have c1 : w1.cell? ⟨w.heap.size, 1, none⟩ = some (.int .i64 0) := (hx.cell 1 (by simp; omega)).trans (by simp [go_sem])
  have c2 : w1.cell? ⟨w.heap.size + 1, 0, none⟩ = some (.int .i64 0) := (hx.cell 0 (by simp)).trans (by simp [go_sem])
  have f0 : w1.frozen? ⟨w.heap.size, 0, none⟩ = false := (hx.froz 0 (by simp; omega)).trans (by simp [go_sem])
  have f1 : w1.frozen? ⟨w.heap.size, 1, none⟩ = false := (hx.froz 1 (by simp; omega)).trans (by simp [go_sem])
  have f2 : w1.frozen? ⟨w.heap.size + 1, 0, none⟩ = false := (hx.froz 0 (by simp)).trans (by simp [go_sem])
  have X := Lib.hid ((((Ext.refl w).alloc (.cells #[.int .i64 0, .int .i64 0] 23)).alloc (.cells #[.int .i64 0] 24)).trans hx)
  clear hx s1
  show bodyPostD _ _ _ _ _ _
  refine leaves_cons (f := 111) (args := #[.pointer (some ⟨w.heap.size, 0, none⟩), .pointer (some ⟨w.heap.size + 1, 0, none⟩)]) (by simp) (by simp [go_sem]) ?_
  refine (catch_panicking w.heap.size (w.heap.size + 1) _ _ _ 24 _ [] w1 (by omega) c0 c1 c2 f0 f1 f2).mono ?_
  rintro e u' w'' ⟨rfl, rfl, rfl⟩
  have XX : Ext w (((w1.setCell ⟨w.heap.size, 0, none⟩ (.int .i64 0)).setCell ⟨w.heap.size, 1, none⟩ (.int .i64 0)).setCell ⟨w.heap.size + 1, 0, none⟩ (.int .i64 3)) :=
    ((X.out.setCell (Nat.le_refl _) _).setCell (Nat.le_refl _) _).setCell (by simp) _
  simp [Leaves, settle, results, Tryz.results82, go_sem, c0, c1, c2, XX]
set_option maxHeartbeats 1000000 in
theorem guarded1_ok (K : FuncId) (x0 : Value) (m x : Int) (w : World) (hent : ∀ args w, (callFunc K args).run Tryz.prog w = .ok (.enter K args) w)
    (hop : ∀ u, Ext w u → Calls Tryz.prog K #[x0] u fun e w' => e = .returned (.agg #[.int .i64 m, .int .i64 x]) ∧ Ext u w') :
    Calls Tryz.prog 82 #[.func (.func K) #[x0] #[]] w fun e w' => e = .returned (.tuple #[.agg #[.int .i64 m, .int .i64 x], .int .i64 0]) ∧ Ext w w' := by
  have HOP := Lib.hid hop
  clear hop
  have hmf : ∀ (fn : Fn) (first cap : Array Value) (w : World), (Instr.makeFunc fn first cap).run Tryz.prog w = .ok (.func fn first cap) w := fun _ _ _ _ => rfl
  go_enter_defers Tryz.func82, Tryz.ntmps82
  go_wp2
  refine (HOP.out _ (((Ext.refl w).alloc _).alloc _)).mono ?_
  rintro e w1 ⟨rfl, hx⟩
  have s1 := hx.size
  simp at s1
  have c0 : w1.cell? ⟨w.heap.size, 0, none⟩ = some (.int .i64 0) := (hx.cell 0 (by simp; omega)).trans (by simp [go_sem])
  have c1 : w1.cell? ⟨w.heap.size, 1, none⟩ = some (.int .i64 0) := (hx.cell 1 (by simp; omega)).trans (by simp [go_sem])
  have c2 : w1.cell? ⟨w.heap.size + 1, 0, none⟩ = some (.int .i64 0) := (hx.cell 0 (by simp)).trans (by simp [go_sem])
  have f0 : w1.frozen? ⟨w.heap.size, 0, none⟩ = false := (hx.froz 0 (by simp; omega)).trans (by simp [go_sem])
  have f1 : w1.frozen? ⟨w.heap.size, 1, none⟩ = false := (hx.froz 1 (by simp; omega)).trans (by simp [go_sem])
  have f2 : w1.frozen? ⟨w.heap.size + 1, 0, none⟩ = false := (hx.froz 0 (by simp)).trans (by simp [go_sem])
  have X := Lib.hid ((((Ext.refl w).alloc (.cells #[.int .i64 0, .int .i64 0] 23)).alloc (.cells #[.int .i64 0] 24)).trans hx)
  clear hx s1
  go_wp2
  refine leaves_cons (f := 111) (args := #[.pointer (some ⟨w.heap.size, 0, none⟩), .pointer (some ⟨w.heap.size + 1, 0, none⟩)]) (by simp) (by simp [go_sem]) ?_
  refine (catch_idle _ _ _).mono ?_
  rintro e u' w'' ⟨rfl, rfl, rfl⟩
  have XX : Ext w (((w1.setCell ⟨w.heap.size, 0, none⟩ (.int .i64 m)).setCell ⟨w.heap.size, 1, none⟩ (.int .i64 x)).setCell ⟨w.heap.size + 1, 0, none⟩ (.int .i64 0)) :=
    ((X.out.setCell (Nat.le_refl _) _).setCell (Nat.le_refl _) _).setCell (by simp) _
  simp [Leaves, settle, results, Tryz.results82, go_sem, c0, c1, c2, XX]

set_option maxHeartbeats 1000000 in
theorem guarded1_range (K : FuncId) (x0 : Value) (w : World) (hent : ∀ args w, (callFunc K args).run Tryz.prog w = .ok (.enter K args) w)
    (hop : ∀ u, Ext w u → Calls Tryz.prog K #[x0] u fun e w' => e = RangePanic ∧ Ext u w') :
    Calls Tryz.prog 82 #[.func (.func K) #[x0] #[]] w fun e w' => e = .returned (.tuple #[.agg #[.int .i64 0, .int .i64 0], .int .i64 3]) ∧ Ext w w' := by
  have HOP := Lib.hid hop
  clear hop
  have hmf : ∀ (fn : Fn) (first cap : Array Value) (w : World), (Instr.makeFunc fn first cap).run Tryz.prog w = .ok (.func fn first cap) w := fun _ _ _ _ => rfl
  go_enter_defers Tryz.func82, Tryz.ntmps82
  go_wp2
  refine (HOP.out _ (((Ext.refl w).alloc _).alloc _)).mono ?_
  rintro e w1 ⟨rfl, hx⟩
  have s1 := hx.size
  simp at s1
  have c0 : w1.cell? ⟨w.heap.size, 0, none⟩ = some (.int .i64 0) := (hx.cell 0 (by simp; omega)).trans (by simp [go_sem])
  have c1 : w1.cell? ⟨w.heap.size, 1, none⟩ = some (.int .i64 0) := (hx.cell 1 (by simp; omega)).trans (by simp [go_sem])
  have c2 : w1.cell? ⟨w.heap.size + 1, 0, none⟩ = some (.int .i64 0) := (hx.cell 0 (by simp)).trans (by simp [go_sem])
  have f0 : w1.frozen? ⟨w.heap.size, 0, none⟩ = false := (hx.froz 0 (by simp; omega)).trans (by simp [go_sem])
  have f1 : w1.frozen? ⟨w.heap.size, 1, none⟩ = false := (hx.froz 1 (by simp; omega)).trans (by simp [go_sem])
  have f2 : w1.frozen? ⟨w.heap.size + 1, 0, none⟩ = false := (hx.froz 0 (by simp)).trans (by simp [go_sem])
  have X := Lib.hid ((((Ext.refl w).alloc (.cells #[.int .i64 0, .int .i64 0] 23)).alloc (.cells #[.int .i64 0] 24)).trans hx)
  clear hx s1
  show bodyPostD _ _ _ _ _ _
  refine leaves_cons (f := 111) (args := #[.pointer (some ⟨w.heap.size, 0, none⟩), .pointer (some ⟨w.heap.size + 1, 0, none⟩)]) (by simp) (by simp [go_sem]) ?_
  refine (catch_panicking w.heap.size (w.heap.size + 1) _ _ _ 24 _ [] w1 (by omega) c0 c1 c2 f0 f1 f2).mono ?_
  rintro e u' w'' ⟨rfl, rfl, rfl⟩
  have XX : Ext w (((w1.setCell ⟨w.heap.size, 0, none⟩ (.int .i64 0)).setCell ⟨w.heap.size, 1, none⟩ (.int .i64 0)).setCell ⟨w.heap.size + 1, 0, none⟩ (.int .i64 3)) :=
    ((X.out.setCell (Nat.le_refl _) _).setCell (Nat.le_refl _) _).setCell (by simp) _
  simp [Leaves, settle, results, Tryz.results82, go_sem, c0, c1, c2, XX]
/-- What a rounding ends with: its value, or the panic. -/
def Ends (r : Option (Int × Int)) (e : Ending) : Prop :=
  match r with | some (m, x) => e = .returned (.agg #[.int .i64 m, .int .i64 x]) | none => e = RangePanic
theorem guarded_any (K : FuncId) (caps : Array Value) (r : Option (Int × Int)) (w : World) (hent : ∀ args w, (callFunc K args).run Tryz.prog w = .ok (.enter K args) w)
    (hop : ∀ u, Ext w u → Calls Tryz.prog K caps u fun e w' => Ends r e ∧ Ext u w') :
    Calls Tryz.prog 82 #[.func (.func K) #[] caps] w fun e w' => e = .returned (.tuple #[.agg #[.int .i64 (okV r).1, .int .i64 (okV r).2], .int .i64 (okE r)]) ∧ Ext w w' := by
  cases r with
  | none => exact guarded_range K caps w hent hop
  | some p => exact guarded_ok K caps p.1 p.2 w hent hop
theorem guarded1_any (K : FuncId) (x0 : Value) (r : Option (Int × Int)) (w : World) (hent : ∀ args w, (callFunc K args).run Tryz.prog w = .ok (.enter K args) w)
    (hop : ∀ u, Ext w u → Calls Tryz.prog K #[x0] u fun e w' => Ends r e ∧ Ext u w') :
    Calls Tryz.prog 82 #[.func (.func K) #[x0] #[]] w fun e w' => e = .returned (.tuple #[.agg #[.int .i64 (okV r).1, .int .i64 (okV r).2], .int .i64 (okE r)]) ∧ Ext w w' := by
  cases r with
  | none => exact guarded1_range K x0 w hent hop
  | some p => exact guarded1_ok K x0 p.1 p.2 w hent hop
theorem rounded_ends (neg more : Bool) (man : Nat) (exp : Int) (hm : man < 18446744073709551616) (he : -1000000 ≤ exp) (he2 : exp ≤ 1000000) (w : World) :
    Calls Tryz.prog 66 #[.agg #[.bool neg, .int .u64 man, .int .i64 exp, .bool more]] w fun e w' => Ends (roundV neg man exp more) e ∧ Ext w w' :=
  rounded_any neg more man exp hm he he2 w
end Go.Proofs.YtoeahfddnjbhbaaGreatDoor
