/- Layer 2: a range over the iterator digits. -/
import Derived.Test.YtoeahfddnjbhbaaGreatDoorRg
import Derived.Test.YtoeahfddnjbhbaaGreatDoorRl
namespace Go.Proofs.YtoeahfddnjbhbaaGreatDoor
open Go.RowKit

/-- A property of worlds that speaks of cells, and of nothing that lies from B on. -/
def OwnW (B : Nat) (p : World → Prop) : Prop :=
  ∀ W W' row, p W → W.grownBy W' row → (∀ r, row = some r → B ≤ r ∧ ∃ o : Obj, W.heap[r]? = some o ∧ o.isCells = false) → p W'
theorem OwnW.alloc {B : Nat} {p : World → Prop} (h : OwnW B p) {W : World} (o : Obj) (hs : p W) : p (W.alloc o) := h W _ none hs (World.grownBy_alloc W o none) (fun r e => by cases e)
theorem OwnW.put {B : Nat} {p : World → Prop} (h : OwnW B p) {W : World} {l : Nat} {o : Obj} (o' : Obj) (hB : B ≤ l) (hs : p W) (hl : W.heap[l]? = some o) (ho : o.isCells = false) : p (W.putObj l o') :=
  h W _ (some l) hs (grownBy_putObj' W l o') (fun r e => by cases e; exact ⟨hB, o, hl, ho⟩)
/-- How the body of a round may be left. -/
def postB (sz : Nat) (I : Nat → Nat → World → Prop) (Ix : Code → World → Prop) (k m : Nat) (W : World) : Exit → Act → World → Prop
  | .normal, _, W' => KeepsOthers W W' ∧ ∃ j, j < k ∧ I j (m * 10 % M384 % sz) W'
  | .ret, _, W' => KeepsOthers W W' ∧ Ix .ret W'
  | .exit id, _, W' => KeepsOthers W W' ∧ Ix (.exit id) W'
  | .goto t, _, W' => KeepsOthers W W' ∧ Ix (.goto t) W'
  | .panic _, _, _ => False
  | .outgrown, _, _ => False

theorem range_digits {g : Operand} {ps : Array Tmp} {assign body : Code} {Q : Exit → Act → World → Prop} {a : Act} {w : World} (Bn Bs sz : Nat) (hne : Bs ≠ Bn) (h0 : 0 < sz) (hsz : sz < N6) (hBn : Bn < w.heap.size)
    (hg : a.eval g = .func (.func 155) #[] #[.pointer (some ⟨Bn, 0, none⟩), .pointer (some ⟨Bs, 0, none⟩)]) (eg : ∀ args w, (callFunc 155 args).run Tryz.prog w = .ok (.enter 155 args) w) (hps : ps.size = 2)
    (I I' : Nat → Nat → World → Prop) (Ix : Code → World → Prop) (hI : ∀ k m, OwnW w.heap.size (I k m)) (hI' : ∀ k m, OwnW w.heap.size (I' k m)) (hIx : ∀ c, OwnW w.heap.size (Ix c))
    (hsix : ∀ k n W, I k n W → n < sz ∧ Six W Bn (L n) ∧ Six W Bs (L sz))
    (hII : ∀ k n W W1, I k n W → W.grownBy W1 (some Bn) → Six W1 Bn (L (n * 10 % M384 % sz)) → I' k n W1)
    (k0 n0 : Nat) (hst : I k0 n0 w)
    (hround : ∀ k m W, m < sz → w.heap.size + 1 < W.heap.size → I' k m W → assign.wpIn (Fence.wide.inRound (w.heap.size + 1)) 2 Tryz.prog (Exit.then (fun a1 w1 => KeepsOthers W w1 ∧ ∀ o', body.wpIn (Fence.wide.inRound (w.heap.size + 1)) 2 Tryz.prog (postB sz I Ix k m (w1.putObj (w.heap.size + 1) o')) a1 (w1.putObj (w.heap.size + 1) o')) (fun _ _ _ => False))
      { tmps := (ps.zip #[.int .i64 ((m * 10 % M384 / sz : Nat) : Int), .agg #[.int .u64 (L (m * 10 % M384 % sz) 0), .int .u64 (L (m * 10 % M384 % sz) 1), .int .u64 (L (m * 10 % M384 % sz) 2), .int .u64 (L (m * 10 % M384 % sz) 3), .int .u64 (L (m * 10 % M384 % sz) 4), .int .u64 (L (m * 10 % M384 % sz) 5)]]).foldl (fun t (p, v) => t.setIfInBounds p v) a.tmps, defers := [] } W)
    (hstop : ∀ (D : Nat) (c : Code) (W : World), Ix c W → W.heap[D]? = some (.deferred (some [])) → w.heap.size ≤ D → c.wpIn Fence.wide 4 Tryz.prog Q { a with defers := { target := .collected D, args := #[] } :: a.defers } W) :
    (Code.rangeFunc g ps assign body).wpIn Fence.wide 4 Tryz.prog Q a w := by
  refine wpIn_rangeFunc ?_
  intro fn hfn
  rw [show Fence.wide.round = none from rfl]
  obtain ⟨rec, hrec⟩ : ∃ rec : LoopState → Option Code → Loop, rec = fun st pe => { state := st, pending := pe, fn, tmps := a.tmps, params := ps, assign, body, defers := w.heap.size } := ⟨_, rfl⟩
  obtain ⟨W1, hW1⟩ : ∃ W1, (w.alloc (.deferred (some []))).alloc (.loop (rec .ready none)) = W1 := ⟨_, rfl⟩
  have hL1 : W1.heap[w.heap.size + 1]? = some (.loop (rec .ready none)) := by
    rw [← hW1]; have := World.alloc_heap_new (w.alloc (.deferred (some []))) (.loop (rec .ready none)); rwa [World.size_alloc] at this
  have hK1 : W1.heap[w.heap.size]? = some (.deferred (some [])) := by
    rw [← hW1]; exact (Below.heap_alloc _ _ _ (by simp)).trans (World.alloc_heap_new w _)
  have hI1 : I k0 n0 W1 := by rw [← hW1]; exact (hI _ _).alloc _ ((hI _ _).alloc _ hst)
  refine ⟨w.heap.size + 1, [{ target := .collected w.heap.size, args := #[] }], W1, { target := .fn (.func 155) #[.pointer (some ⟨Bn, 0, none⟩), .pointer (some ⟨Bs, 0, none⟩)], args := #[.func (.yield (w.heap.size + 1)) #[] #[]] }, W1, 155,
    #[.func (.yield (w.heap.size + 1)) #[] #[]] ++ #[.pointer (some ⟨Bn, 0, none⟩), .pointer (some ⟨Bs, 0, none⟩)], W1, ?_, ?_, ?_, ?_, fun _ => by omega, ?_⟩
  · rw [← hW1, hrec]; exact run_enterLoop_outer _ _ _ _ _
  · simp only [resolve, hg]
    simp [go_sem]
  · intro f' _; trivial
  · simp [invoke, go_sem, eg]
  · refine (digits_in Bn Bs sz (w.heap.size + 1) hne h0 hsz
      (fun k m W => I k m W ∧ W.heap[w.heap.size + 1]? = some (.loop (rec .ready none)) ∧ W.heap[w.heap.size]? = some (.deferred (some [])))
      (fun k m W => I' k m W ∧ W.heap[w.heap.size + 1]? = some (.loop (rec .ready none)) ∧ W.heap[w.heap.size]? = some (.deferred (some [])))
      (fun W => ∃ c, Ix c W ∧ W.heap[w.heap.size + 1]? = some (.loop (rec .done (some c))) ∧ W.heap[w.heap.size]? = some (.deferred (some [])))
      (fun k m W h => hsix k m W h.1) ?_ ?_ k0 n0 W1 ⟨hI1, hL1, hK1⟩).mono ?_
    · rintro k m W W2 ⟨hi, hl, hk⟩ hgr hs
      have l1 := (Array.getElem?_eq_some_iff.1 hl).1
      have l2 := (Array.getElem?_eq_some_iff.1 hk).1
      exact ⟨hII k m W W2 hi hgr hs, (hgr.block _ l1 (fun e => by cases e; omega)).trans hl, (hgr.block _ l2 (fun e => by cases e; omega)).trans hk⟩
    · rintro k m W hm ⟨hi, hl, hk⟩
      have hlt : w.heap.size + 1 < W.heap.size := (Array.getElem?_eq_some_iff.1 hl).1
      have hy := run_yield (P := Tryz.prog) (args := #[.int .i64 ((m * 10 % M384 / sz : Nat) : Int), .agg #[.int .u64 (L (m * 10 % M384 % sz) 0), .int .u64 (L (m * 10 % M384 % sz) 1), .int .u64 (L (m * 10 % M384 % sz) 2), .int .u64 (L (m * 10 % M384 % sz) 3), .int .u64 (L (m * 10 % M384 % sz) 4), .int .u64 (L (m * 10 % M384 % sz) 5)]]) hl (by rw [hrec]; simp [hps])
      rw [hrec] at hy
      refine ⟨fn, _, assign, body, hy, roundIn_of_wpIn hfn (Code.wpIn_mono ?_ (hround k m W hm hlt hi))⟩
      intro e a2 w2 hq
      cases e with
      | normal =>
        obtain ⟨hk2, hb⟩ := hq
        have hl2 := hk2.same _ _ hl rfl
        have hd2 := hk2.same _ _ hk rfl
        have hlt2 : w.heap.size + 1 < w2.heap.size := (Array.getElem?_eq_some_iff.1 hl2).1
        refine ⟨_, run_beginRound hl2 (by rw [hrec]), ?_⟩
        have hl3 : (w2.putObj (w.heap.size + 1) (.loop { rec .ready none with state := .busy })).heap[w.heap.size + 1]? = some (.loop { rec .ready none with state := .busy }) := World.putObj_heap_same hlt2
        have hd3 : (w2.putObj (w.heap.size + 1) (.loop { rec .ready none with state := .busy })).heap[w.heap.size]? = some (.deferred (some [])) := (World.putObj_heap_other (by omega)).trans hd2
        refine wpIn_mono (hb _) ?_
        have fin : ∀ (jump : Option Code) (W3 : World), KeepsOthers (w2.putObj (w.heap.size + 1) (.loop { rec .ready none with state := .busy })) W3 →
            (Instr.endRound (w.heap.size + 1) jump).run Tryz.prog W3 = .ok (.bool jump.isNone) (W3.putObj (w.heap.size + 1) (.loop (rec (if jump.isNone then .ready else .done) jump))) ∧
            W3.heap[w.heap.size + 1]? = some (.loop { rec .ready none with state := .busy }) ∧
            (W3.putObj (w.heap.size + 1) (.loop (rec (if jump.isNone then .ready else .done) jump))).heap[w.heap.size + 1]? = some (.loop (rec (if jump.isNone then .ready else .done) jump)) ∧
            (W3.putObj (w.heap.size + 1) (.loop (rec (if jump.isNone then .ready else .done) jump))).heap[w.heap.size]? = some (.deferred (some [])) := fun jump W3 hk3 => by
          have hl4 := hk3.same _ _ hl3 rfl
          have := run_endRound (P := Tryz.prog) jump hl4
          rw [hrec] at this ⊢
          exact ⟨this, by rw [hrec] at hl4; exact hl4, World.putObj_heap_same (Array.getElem?_eq_some_iff.1 hl4).1, (World.putObj_heap_other (by omega)).trans (hk3.same _ _ hd3 rfl)⟩
        rintro e a3 W3 hp
        cases e with
        | normal =>
          obtain ⟨hk3, j, hj, hi3⟩ := hp
          obtain ⟨hr, hl4, hl5, hk5⟩ := fin none W3 hk3
          exact ⟨_, _, hr, .inl ⟨rfl, j, hj, (hI _ _).put _ (by omega) hi3 hl4 rfl, hl5, hk5⟩⟩
        | ret =>
          obtain ⟨hk3, hi3⟩ := hp
          obtain ⟨hr, hl4, hl5, hk5⟩ := fin (some .ret) W3 hk3
          exact ⟨_, _, hr, .inr ⟨rfl, .ret, (hIx _).put _ (by omega) hi3 hl4 rfl, hl5, hk5⟩⟩
        | exit id =>
          obtain ⟨hk3, hi3⟩ := hp
          obtain ⟨hr, hl4, hl5, hk5⟩ := fin (some (.exit id)) W3 hk3
          exact ⟨_, _, hr, .inr ⟨rfl, .exit id, (hIx _).put _ (by omega) hi3 hl4 rfl, hl5, hk5⟩⟩
        | goto t =>
          obtain ⟨hk3, hi3⟩ := hp
          obtain ⟨hr, hl4, hl5, hk5⟩ := fin (some (.goto t)) W3 hk3
          exact ⟨_, _, hr, .inr ⟨rfl, .goto t, (hIx _).put _ (by omega) hi3 hl4 rfl, hl5, hk5⟩⟩
        | panic ch => exact hp.elim
        | outgrown => exact hp.elim
      | _ => exact hq.elim
    · rintro e W2 ⟨⟨v, rfl⟩, c, hi, hl, hk⟩
      exact ⟨some c, _, by have := run_endLoop (P := Tryz.prog) hl (by rw [hrec]; simp); rw [hrec] at this; exact this, hstop _ c _ ((hIx c).put _ (by omega) hi hl rfl) ((World.putObj_heap_other (by omega)).trans hk) (Nat.le_refl _)⟩
end Go.Proofs.YtoeahfddnjbhbaaGreatDoor
