/- Layer 1: what the law's Found holds, and its method meets. -/
import Derived.Test.YtmcajdfbkhaplaaMq
import Derived.Test.YtmcajdfbkhaplaaMin
namespace Go.Proofs.Ytmcajdfbkhaplaa
open Go.RowKit

/-- Block F holds the four cells of a Found; all other cells are as in w. -/
structure FD (w0 w : World) (F : Nat) (lo hi ok bad : Int) (u : World) : Prop where
  c0 : u.cell? ⟨F, 0, none⟩ = some (.int .i64 lo)
  c1 : u.cell? ⟨F, 1, none⟩ = some (.int .i64 hi)
  c2 : u.cell? ⟨F, 2, none⟩ = some (.int .i64 ok)
  c3 : u.cell? ⟨F, 3, none⟩ = some (.int .i64 bad)
  f0 : u.frozen? ⟨F, 0, none⟩ = false
  f1 : u.frozen? ⟨F, 1, none⟩ = false
  f2 : u.frozen? ⟨F, 2, none⟩ = false
  f3 : u.frozen? ⟨F, 3, none⟩ = false
  oc : ∀ b o, b ≠ F → u.cell? ⟨b, o, none⟩ = w.cell? ⟨b, o, none⟩
  of : ∀ b o, u.frozen? ⟨b, o, none⟩ = w.frozen? ⟨b, o, none⟩
  sz : u.heap.size = w.heap.size
  ext : Ext w0 u

theorem FD.set0 {w0 w u : World} {F : Nat} {lo hi ok bad : Int} (h : FD w0 w F lo hi ok bad u) (hF : w0.heap.size ≤ F) (x : Int) : FD w0 w F x hi ok bad (u.setCell ⟨F, 0, none⟩ (.int .i64 x)) :=
  { c0 := World.cell?_setCell_same' _ _ _ (by rw [h.c0]; rfl), c1 := by rw [World.cell?_setCell_other _ _ _ _ (by simp)]; exact h.c1, c2 := by rw [World.cell?_setCell_other _ _ _ _ (by simp)]; exact h.c2, c3 := by rw [World.cell?_setCell_other _ _ _ _ (by simp)]; exact h.c3, f0 := by rw [World.frozen?_setCell]; exact h.f0, f1 := by rw [World.frozen?_setCell]; exact h.f1, f2 := by rw [World.frozen?_setCell]; exact h.f2, f3 := by rw [World.frozen?_setCell]; exact h.f3, oc := fun b o hb => by rw [World.cell?_setCell_other _ _ _ _ (by first | (simp [hb]; done) | (simp [Ne.symm hb]; done) | (simp; omega))]; exact h.oc b o hb, of := fun b o => by rw [World.frozen?_setCell]; exact h.of b o, sz := by first | (simp [h.sz]; done) | exact h.sz, ext := h.ext.setCell hF _ }
theorem FD.set1 {w0 w u : World} {F : Nat} {lo hi ok bad : Int} (h : FD w0 w F lo hi ok bad u) (hF : w0.heap.size ≤ F) (x : Int) : FD w0 w F lo x ok bad (u.setCell ⟨F, 1, none⟩ (.int .i64 x)) :=
  { c0 := by rw [World.cell?_setCell_other _ _ _ _ (by simp)]; exact h.c0, c1 := World.cell?_setCell_same' _ _ _ (by rw [h.c1]; rfl), c2 := by rw [World.cell?_setCell_other _ _ _ _ (by simp)]; exact h.c2, c3 := by rw [World.cell?_setCell_other _ _ _ _ (by simp)]; exact h.c3, f0 := by rw [World.frozen?_setCell]; exact h.f0, f1 := by rw [World.frozen?_setCell]; exact h.f1, f2 := by rw [World.frozen?_setCell]; exact h.f2, f3 := by rw [World.frozen?_setCell]; exact h.f3, oc := fun b o hb => by rw [World.cell?_setCell_other _ _ _ _ (by first | (simp [hb]; done) | (simp [Ne.symm hb]; done) | (simp; omega))]; exact h.oc b o hb, of := fun b o => by rw [World.frozen?_setCell]; exact h.of b o, sz := by first | (simp [h.sz]; done) | exact h.sz, ext := h.ext.setCell hF _ }
theorem FD.set2 {w0 w u : World} {F : Nat} {lo hi ok bad : Int} (h : FD w0 w F lo hi ok bad u) (hF : w0.heap.size ≤ F) (x : Int) : FD w0 w F lo hi x bad (u.setCell ⟨F, 2, none⟩ (.int .i64 x)) :=
  { c0 := by rw [World.cell?_setCell_other _ _ _ _ (by simp)]; exact h.c0, c1 := by rw [World.cell?_setCell_other _ _ _ _ (by simp)]; exact h.c1, c2 := World.cell?_setCell_same' _ _ _ (by rw [h.c2]; rfl), c3 := by rw [World.cell?_setCell_other _ _ _ _ (by simp)]; exact h.c3, f0 := by rw [World.frozen?_setCell]; exact h.f0, f1 := by rw [World.frozen?_setCell]; exact h.f1, f2 := by rw [World.frozen?_setCell]; exact h.f2, f3 := by rw [World.frozen?_setCell]; exact h.f3, oc := fun b o hb => by rw [World.cell?_setCell_other _ _ _ _ (by first | (simp [hb]; done) | (simp [Ne.symm hb]; done) | (simp; omega))]; exact h.oc b o hb, of := fun b o => by rw [World.frozen?_setCell]; exact h.of b o, sz := by first | (simp [h.sz]; done) | exact h.sz, ext := h.ext.setCell hF _ }
theorem FD.set3 {w0 w u : World} {F : Nat} {lo hi ok bad : Int} (h : FD w0 w F lo hi ok bad u) (hF : w0.heap.size ≤ F) (x : Int) : FD w0 w F lo hi ok x (u.setCell ⟨F, 3, none⟩ (.int .i64 x)) :=
  { c0 := by rw [World.cell?_setCell_other _ _ _ _ (by simp)]; exact h.c0, c1 := by rw [World.cell?_setCell_other _ _ _ _ (by simp)]; exact h.c1, c2 := by rw [World.cell?_setCell_other _ _ _ _ (by simp)]; exact h.c2, c3 := World.cell?_setCell_same' _ _ _ (by rw [h.c3]; rfl), f0 := by rw [World.frozen?_setCell]; exact h.f0, f1 := by rw [World.frozen?_setCell]; exact h.f1, f2 := by rw [World.frozen?_setCell]; exact h.f2, f3 := by rw [World.frozen?_setCell]; exact h.f3, oc := fun b o hb => by rw [World.cell?_setCell_other _ _ _ _ (by first | (simp [hb]; done) | (simp [Ne.symm hb]; done) | (simp; omega))]; exact h.oc b o hb, of := fun b o => by rw [World.frozen?_setCell]; exact h.of b o, sz := by first | (simp [h.sz]; done) | exact h.sz, ext := h.ext.setCell hF _ }

def fl (ok lo n : Int) : Int := if ok = 0 then n else min lo n
def fh (ok hi n : Int) : Int := if ok = 0 then n else max hi n
set_option maxHeartbeats 2000000 in
theorem meets_ok (w0 w : World) (F : Nat) (lo hi ok bad n : Int) (h : FD w0 w F lo hi ok bad w) (hF : w0.heap.size ≤ F) (b1 : 0 ≤ ok) (b2 : ok ≤ 100) :
    Calls Try.prog 72 #[.pointer (some ⟨F, 0, none⟩), .int .i64 n, .int .i64 0] w fun e w' => e = .returned (.tuple #[]) ∧ FD w0 w F (fl ok lo n) (fh ok hi n) (ok + 1) bad w' := by
  have h0 := h.c0
  have h1 := h.c1
  have h2 := h.c2
  have h3 := h.c3
  have g0 := h.f0
  have g1 := h.f1
  have g2 := h.f2
  have g3 := h.f3
  have H := Lib.hid h
  clear h
  by_cases hk : ok = 0
  · subst hk
    rw [show fl 0 lo n = n from rfl, show fh 0 hi n = n from rfl]
    go_enter Try.func72, Try.ntmps72
    go_wp2
    go_end0
    exact ⟨rfl, by
      have := ((((H.out.set0 hF n).set1 hF n).set2 hF (0 + 1)).set0 hF n).set1 hF n
      simpa using this⟩
  · have hz : (ok == 0) = false := by simp [hk]
    rw [show fl ok lo n = min lo n from if_neg hk, show fh ok hi n = max hi n from if_neg hk]
    clear hk
    obtain ⟨mn, hmn⟩ : ∃ x, min lo n = x := ⟨_, rfl⟩
    obtain ⟨mx, hmx⟩ : ∃ x, max hi n = x := ⟨_, rfl⟩
    rw [hmn, hmx]
    have q1 : (if n < lo then n else lo) = mn := by rw [ite_min, hmn]
    have q2 : (if n > hi then n else hi) = mx := by rw [ite_max, hmx]
    have q3 := fun (ts : Array TypeId) (t : TypeId) (w : World) => (run_min_int2 (P := Try.prog) w ts t .i64 .i64 lo n).trans (by rw [q1])
    have q4 := fun (ts : Array TypeId) (t : TypeId) (w : World) => (run_max_int2 (P := Try.prog) w ts t .i64 .i64 hi n).trans (by rw [q2])
    clear hmn hmx q1 q2
    go_enter Try.func72, Try.ntmps72
    go_wp2
    go_end0
    exact ⟨rfl, ((H.out.set2 hF (ok + 1)).set0 hF mn).set1 hF mx⟩
set_option maxHeartbeats 2000000 in
theorem meets_bad (w0 w : World) (F : Nat) (lo hi ok bad n e : Int) (h : FD w0 w F lo hi ok bad w) (hF : w0.heap.size ≤ F) (b1 : 0 ≤ bad) (b2 : bad ≤ 100) (he : e ≠ 0) :
    Calls Try.prog 72 #[.pointer (some ⟨F, 0, none⟩), .int .i64 n, .int .i64 e] w fun e w' => e = .returned (.tuple #[]) ∧ FD w0 w F lo hi ok (bad + 1) w' := by
  have h3 := h.c3
  have g3 := h.f3
  have H := Lib.hid h
  have hz : (e == 0) = false := by simp [he]
  have hz' : (e != 0) = true := by simp [he]
  clear h he
  go_enter Try.func72, Try.ntmps72
  go_wp2
  refine bodyPost_ret (v := .tuple #[]) (by first | (simp [results, Try.results72, go_sem]; done) | (simp [results, Try.results72, go_sem]; rfl)) rfl ?_
  exact ⟨rfl, H.out.set3 hF (bad + 1)⟩

end Go.Proofs.Ytmcajdfbkhaplaa
