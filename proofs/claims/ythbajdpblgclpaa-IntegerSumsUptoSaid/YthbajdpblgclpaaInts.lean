/- Slices of integers that come in, and what is appended out of them. -/
import Derived.Test.YthbajdpblgclpaaLaw
import Derived.Laws.AppendOwn
import Derived.Laws.AppendOwnNone
namespace Go.Proofs.Ythbajdpblgclpaa
open Go.ChangeShapes Go.WideShapes Go.ChangeAt Go.RowKit

/-- A slice that reads as the integers 'l': nil, or at an address. -/
def IsInts2 (w : World) (v : Value) (l : List Int) : Prop :=
  (v = .slice none 0 0 ∧ l = []) ∨ ∃ ad cap, v = .slice (some ad) l.length cap ∧ l.length * 8 ≤ 140737488351232 ∧ (∀ j, j < l.length → w.cell? (ad.add j) = some (.int .i64 (l.getD j 0))) ∧ ∀ n, n ∈ l → (Lit.int .i64 n).wf = true

theorem IsInts2.one {w : World} {v : Value} {l : List Int} (h : IsInts2 w v l) : IsInts w v l := by
  rcases h with ⟨rfl, rfl⟩ | ⟨ad, cap, rfl, h1, h2, h3⟩
  · exact Or.inl ⟨_, _, rfl, rfl⟩
  · by_cases h0 : l.length = 0
    · obtain rfl := List.length_eq_zero_iff.1 h0
      exact Or.inl ⟨_, _, rfl, rfl⟩
    · obtain ⟨b, off, spot⟩ := ad
      have hspot : spot = none := by simpa [Addr.add] using World.cell?_spot (h2 0 (by omega))
      subst hspot
      have hb : b < w.heap.size := World.block_lt_of_cell? w _ (h2 0 (by omega))
      exact Or.inr ⟨b, off, cap, rfl, hb, h1, fun j hj => by rw [← add_plain]; exact h2 j hj, h3⟩
theorem IsInts2.ext {w w' : World} {v : Value} {l : List Int} (h : IsInts2 w v l) (hx : Ext w w') : IsInts2 w' v l := by
  rcases h with ⟨rfl, rfl⟩ | ⟨ad, cap, rfl, h1, h2, h3⟩
  · exact Or.inl ⟨rfl, rfl⟩
  · refine Or.inr ⟨ad, cap, rfl, h1, fun j hj => ?_, h3⟩
    exact (hx.bel.cell (p := ad.add j) (World.block_lt_of_cell? w _ (h2 j hj))).trans (h2 j hj)

theorem open_intsArg2 {H : Type} {enc : TypeId × Value → H} {P : Program} {t e : TypeId} {W : World} {v : Value} {d : DataW H} {p : List MemPlace} {base : Nat} {ts : List TypeId} {ds : List (DataW H)} {j : Nat}
    (ht : P.underlying t = some (.slice e)) (he : P.underlying e = some (.int .i64)) (hc : P.cellsOf e = 1) (hby : P.bytesOf e = 8) (hv : Value.okWide P W .any base t v)
    (h : DataW.Trod enc P W 0 (fun _ => true) true t v d p)
    (hsz : (DataW.weightsEach P ts ds).all (· ≤ reachBytes) = true) (hts : ts[j]? = some t) (hds : ds[j]? = some d) : ∃ l, IsInts2 W v l ∧ (l = [] ∨ ∃ sp, d = .slice (lits .i64 l) sp) := by
  obtain ⟨a0, len, cap, rfl⟩ := okWide_slice ht hv
  obtain ⟨fuel, hf⟩ := h
  rcases open_ints ht he hc hf with ⟨hcs, hx⟩ | ⟨a, len', cap', zs, hcs, _, hl, hm, hz, hx, hcell, hwz⟩
  · simp [Value.cells] at hcs
    obtain ⟨rfl, rfl, rfl⟩ := hcs
    exact ⟨[], Or.inl ⟨rfl, rfl⟩, Or.inl rfl⟩
  · simp [Value.cells] at hcs
    obtain ⟨rfl, rfl, rfl⟩ := hcs
    simp only [Prod.mk.injEq] at hx
    obtain ⟨rfl, rfl⟩ := hx
    simp only [if_true] at hz
    have hlen : (zs.take len).length = len := by rw [List.length_take]; omega
    have hreach := sized_slice hsz hts hds ht
    rw [hby] at hreach
    simp only [lits, List.length_map, List.length_take, List.length_drop, reachBytes] at hreach
    refine ⟨zs.take len, Or.inr ⟨a, cap, by rw [hlen], by rw [hlen]; omega, fun i hi => ?_, fun n hn => hwz n (List.mem_of_mem_take hn)⟩, Or.inr ⟨_, rfl⟩⟩
    rw [hlen] at hi
    rw [hcell i (by omega)]
    simp [List.getD, hi]

theorem IsInts2.wfs {w : World} {v : Value} {l : List Int} (h : IsInts2 w v l) : ∀ n, n ∈ l → (Lit.int .i64 n).wf = true := by
  rcases h with ⟨_, rfl⟩ | ⟨_, _, _, _, _, h3⟩
  · intro n hn; cases hn
  · exact h3
theorem own_shape {w : World} {base : Nat} {e : TypeId} {v : Value} {n : Nat} {xs : List Value} (h : w.ownsRow base e 1 v n xs) : ∃ ao cap, v = .slice ao n cap ∧ (0 < n → ∃ g, ao = some ⟨g, 0, none⟩ ∧ base ≤ g ∧ g < w.heap.size ∧ ∀ j u, xs[j]? = some u → w.cell? ⟨g, j, none⟩ = some u) := by
  obtain ⟨hl, ⟨rfl, hn⟩ | ⟨g, cap, cur, rfl, hg, hh, h1, h2, h3, h4⟩⟩ := h
  · exact ⟨none, 0, by rw [hn], fun h => by omega⟩
  · refine ⟨_, cap, rfl, fun hp => ⟨g, rfl, hg, (Array.getElem?_eq_some_iff.1 hh).1, fun j u hj => ?_⟩⟩
    have hj' : j < xs.length := (List.getElem?_eq_some_iff.1 hj).1
    rw [← h4, List.getElem?_take_of_lt (by omega), Array.getElem?_toList] at hj
    simp only [World.cell?, hh]
    simpa using hj
theorem own_ints2 {w : World} {base : Nat} {e : TypeId} {v : Value} {n : Nat} {l : List Int} (h : w.ownsRow base e 1 v n (l.map (Value.int .i64))) (hb : n * 8 ≤ 140737488351232) (hw : ∀ z, z ∈ l → (Lit.int .i64 z).wf = true) : IsInts2 w v l := by
  have hl : l.length = n := by have := h.1; simpa using this
  obtain ⟨ao, cap, rfl, hs⟩ := own_shape h
  by_cases h0 : 0 < n
  · obtain ⟨g, rfl, _, _, hc⟩ := hs h0
    refine Or.inr ⟨_, cap, by rw [hl], by rw [hl]; exact hb, fun j hj => ?_, hw⟩
    rw [add_plain, Nat.zero_add]
    exact hc j _ (by rw [List.getElem?_map]; simp [List.getD, hj])
  · obtain rfl : n = 0 := by omega
    obtain rfl := List.length_eq_zero_iff.1 hl
    obtain ⟨_, ⟨e1, _⟩ | ⟨g, cap', cur, e1, _⟩⟩ := h
    · exact Or.inl ⟨e1, rfl⟩
    · rw [e1]; exact Or.inr ⟨_, cap', rfl, by simp, fun j hj => by simp at hj, hw⟩

section
variable {P : Program} {w : World} {ops : Array Oper} {rest : List Oper} {o : Oper} {a : Act} {Q : Exit → Act → World → Prop}
/-- 'append(s, x...)' on a row of the call's own, whatever x is. -/
theorem app_ints (hgd : o.guard = none) (s x : Operand) (t : TypeId) (ho : o.op = .call { callee := .builtin .append, args := #[s, x], argTypes := #[t, t] })
    (base : Nat) (e : TypeId) (hinfo : (P.info? e).map (fun i => (i.zero, i.size, i.bytes)) = some (some (.int .i64 0), 1, 8)) (ht : P.underlying t = some (.slice e))
    (v : Value) (n : Nat) (xs : List Value) (hs : a.eval s = v) (hown : w.ownsRow base e 1 v n xs) (xv : Value) (l : List Int) (hx : a.eval x = xv) (hI : IsInts2 w xv l)
    (hn : n + l.length ≤ 2097152) (hbase : base ≤ w.heap.size)
    (h : ∀ v' w', w'.ownsRow base e 1 v' (n + l.length) (xs ++ l.map (Value.int .i64)) → Below base w w' → wpList P ops Q rest (a.put o.dst v') w') : wpList P ops Q (o :: rest) a w := by
  obtain ⟨i0, hi, hz0, hz1, hz2⟩ := info_parts hinfo
  rcases hI with ⟨rfl, rfl⟩ | ⟨ad, cap, rfl, h1, h2, h3⟩
  · refine wpList_append_own_none hgd s x t ho base e i0 1 ht hi v n xs hs hown hx ?_
    exact h v w (by simpa using hown) (Below.refl _ _)
  · refine wpList_append_own w hgd s x t ho base e i0 (.int .i64 0) 1 8 ht hi hz0 hz1 hz2 rfl (by decide) v n xs hs hown ad l.length cap (l.map (Value.int .i64)) hx (by simp) (fun j u hj => ?_) (fun u hu => ?_) (by unfold maxLen; omega) (by omega) hbase ?_
    · rw [List.getElem?_map, Option.map_eq_some_iff] at hj
      obtain ⟨z, hz, rfl⟩ := hj
      have hj := (List.getElem?_eq_some_iff.1 hz).1
      rw [h2 j hj]; simp [List.getD, hz]
    · obtain ⟨z, _, rfl⟩ := List.mem_map.1 hu; rfl
    · intro v' w' hown' hg _
      exact h v' w' hown' ((Below.refl base w).grown hg hbase (fun k hk => (hown.lt k hk).1))
end
end Go.Proofs.Ythbajdpblgclpaa
