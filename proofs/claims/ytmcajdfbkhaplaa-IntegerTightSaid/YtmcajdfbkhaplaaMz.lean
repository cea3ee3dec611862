/- Layer 1: IntegerTight: the four results on ends of two spans. -/
import Derived.Test.YtmcajdfbkhaplaaMt
namespace Go.Proofs.Ytmcajdfbkhaplaa
open Go.RowKit

def opz (op x y : Int) : Int := if op = 0 then x + y else if op = 1 then x - y else x * y
theorem opz_0 (x y : Int) : opz 0 x y = x + y := rfl
theorem opz_1 (x y : Int) : opz 1 x y = x - y := rfl
theorem opz_2 (x y : Int) : opz 2 x y = x * y := rfl
def xs4 (a b : Int) (k : Nat) : Int := if k = 0 then a else if k = 1 then a else b
def ys4 (c d : Int) (k : Nat) : Int := if k = 0 then c else if k = 1 then d else if k = 2 then c else d
def zs4 (op a b c d : Int) (k : Nat) : Int := opz op (xs4 a b k) (ys4 c d k)
def zN (z : Nat → Int) : Nat → Int
  | 0 => 0
  | k + 1 => if okB (z k) = true then zN z k + 1 else zN z k
def zB (z : Nat → Int) : Nat → Int
  | 0 => 0
  | k + 1 => if okB (z k) = true then zB z k else zB z k + 1
def zL (z : Nat → Int) : Nat → Int
  | 0 => 0
  | k + 1 => if okB (z k) = true then fl (zN z k) (zL z k) (z k) else zL z k
def zH (z : Nat → Int) : Nat → Int
  | 0 => 0
  | k + 1 => if okB (z k) = true then fh (zN z k) (zH z k) (z k) else zH z k
theorem z_bd (z : Nat → Int) : ∀ k, (0 ≤ zN z k ∧ zN z k ≤ k) ∧ (0 ≤ zB z k ∧ zB z k ≤ k)
  | 0 => ⟨⟨by simp [zN], by simp [zN]⟩, ⟨by simp [zB], by simp [zB]⟩⟩
  | k + 1 => by
    have := z_bd z k
    rw [zN, zB]; split <;> omega
theorem okF {n : Int} (h : okB n = false) : n < -2147483647 ∨ 2147483647 < n := by
  have h' : ¬ (-2147483647 ≤ n ∧ n ≤ 2147483647) := fun g => by rw [okB_t.2 g] at h; cases h
  omega
/-- What the law asks of the four results. -/
theorem tight4 (z : Nat → Int) (lo hi : Int) (hl : lo = min (min (min (z 0) (z 1)) (z 2)) (z 3)) (hh : hi = max (max (max (z 0) (z 1)) (z 2)) (z 3)) :
    (cutE lo hi = 3 ∧ zN z 4 = 0) ∨ (cutE lo hi = 0 ∧ ((cutM lo hi = true ∧ 0 < zB z 4) ∨ (cutM lo hi = false ∧ zB z 4 = 0 ∧ zL z 4 = cutL lo hi ∧ zH z 4 = cutH lo hi))) := by
  generalize e0 : z 0 = z0 at *
  generalize e1 : z 1 = z1 at *
  generalize e2 : z 2 = z2 at *
  generalize e3 : z 3 = z3 at *
  by_cases hc : 2147483647 < lo ∨ hi < -2147483647
  · refine Or.inl ⟨by unfold cutE; rw [if_pos hc], ?_⟩
    have k : ∀ x, (x = z0 ∨ x = z1 ∨ x = z2 ∨ x = z3) → okB x = false := fun x hx => by
      rw [Bool.eq_false_iff]; intro g; have := okB_t.1 g; omega
    have n0 := k z0 (by simp)
    have n1 := k z1 (by simp)
    have n2 := k z2 (by simp)
    have n3 := k z3 (by simp)
    simp [zN, e0, e1, e2, e3, n0, n1, n2, n3]
  · have hE : cutE lo hi = 0 := by unfold cutE; rw [if_neg hc]
    refine Or.inr ⟨hE, ?_⟩
    by_cases ho : lo < -2147483647 ∨ 2147483647 < hi
    · refine Or.inl ⟨by simp [cutM, hE, ho], ?_⟩
      have b := (z_bd z 4).2.1
      rcases Int.lt_or_le 0 (zB z 4) with hp | hp
      · exact hp
      exfalso
      have h0 : zB z 4 = 0 := by omega
      have key : okB z0 = true ∧ okB z1 = true ∧ okB z2 = true ∧ okB z3 = true := by
        rcases Bool.eq_false_or_eq_true (okB z0) with n0 | n0 <;> rcases Bool.eq_false_or_eq_true (okB z1) with n1 | n1 <;> rcases Bool.eq_false_or_eq_true (okB z2) with n2 | n2 <;> rcases Bool.eq_false_or_eq_true (okB z3) with n3 | n3 <;>
          first | exact ⟨n0, n1, n2, n3⟩ | (exfalso; simp [zB, e0, e1, e2, e3, n0, n1, n2, n3] at h0)
      obtain ⟨n0, n1, n2, n3⟩ := key
      have := okB_t.1 n0
      have := okB_t.1 n1
      have := okB_t.1 n2
      have := okB_t.1 n3
      omega
    · have n : ∀ x, (x = z0 ∨ x = z1 ∨ x = z2 ∨ x = z3) → okB x = true := fun x hx => okB_t.2 (by omega)
      have n0 := n z0 (by simp)
      have n1 := n z1 (by simp)
      have n2 := n z2 (by simp)
      have n3 := n z3 (by simp)
      refine Or.inr ⟨by simp [cutM, hE]; omega, by simp [zB, e0, e1, e2, e3, n0, n1, n2, n3], ?_, ?_⟩
      · have : zL z 4 = min (min (min z0 z1) z2) z3 := by
          simp only [zL, zN, e0, e1, e2, e3, n0, n1, n2, n3, if_true, fl_0]
          rw [fl_p (by omega), fl_p (by omega), fl_p (by omega)]
        rw [this, cutL, if_pos hE, ← hl]; omega
      · have : zH z 4 = max (max (max z0 z1) z2) z3 := by
          simp only [zH, zN, e0, e1, e2, e3, n0, n1, n2, n3, if_true, fh_0]
          rw [fh_p (by omega), fh_p (by omega), fh_p (by omega)]
        rw [this, cutH, if_pos hE, ← hh]; omega
/-- The cells that the inner loop only reads. -/
structure TX (a b c d : Int) (A B X Y : Nat) (u : World) : Prop where
  a0 : u.cell? ⟨A, 0, none⟩ = some (.int .i64 a)
  a1 : u.cell? ⟨A, 1, none⟩ = some (.int .i64 b)
  b0 : u.cell? ⟨B, 0, none⟩ = some (.int .i64 c)
  b1 : u.cell? ⟨B, 1, none⟩ = some (.int .i64 d)
  x0 : u.cell? ⟨X, 0, none⟩ = some (.int .i64 a)
  x1 : u.cell? ⟨X, 1, none⟩ = some (.int .i64 a)
  x2 : u.cell? ⟨X, 2, none⟩ = some (.int .i64 b)
  x3 : u.cell? ⟨X, 3, none⟩ = some (.int .i64 b)
  y0 : u.cell? ⟨Y, 0, none⟩ = some (.int .i64 c)
  y1 : u.cell? ⟨Y, 1, none⟩ = some (.int .i64 d)
  y2 : u.cell? ⟨Y, 2, none⟩ = some (.int .i64 c)
  y3 : u.cell? ⟨Y, 3, none⟩ = some (.int .i64 d)
theorem TX.x {a b c d : Int} {A B X Y k : Nat} {u : World} (h : TX a b c d A B X Y u) (hk : k < 4) : u.cell? ⟨X, k, none⟩ = some (.int .i64 (xs4 a b k)) ∧ u.cell? ⟨Y, k, none⟩ = some (.int .i64 (ys4 c d k)) := by
  have : k = 0 ∨ k = 1 ∨ k = 2 ∨ k = 3 := by omega
  rcases this with rfl | rfl | rfl | rfl
  · exact ⟨h.x0, h.y0⟩
  · exact ⟨h.x1, h.y1⟩
  · exact ⟨h.x2, h.y2⟩
  · exact ⟨h.x3, h.y3⟩

theorem TX.later {a b c d : Int} {A B X Y : Nat} {u v : World} (h : TX a b c d A B X Y u) (hx : Ext u v) : TX a b c d A B X Y v := by
  have L := @World.block_lt_of_cell?
  exact { a0 := (hx.cell 0 (L u _ h.a0)).trans h.a0, a1 := (hx.cell 1 (L u _ h.a1)).trans h.a1, b0 := (hx.cell 0 (L u _ h.b0)).trans h.b0, b1 := (hx.cell 1 (L u _ h.b1)).trans h.b1, x0 := (hx.cell 0 (L u _ h.x0)).trans h.x0, x1 := (hx.cell 1 (L u _ h.x1)).trans h.x1, x2 := (hx.cell 2 (L u _ h.x2)).trans h.x2, x3 := (hx.cell 3 (L u _ h.x3)).trans h.x3, y0 := (hx.cell 0 (L u _ h.y0)).trans h.y0, y1 := (hx.cell 1 (L u _ h.y1)).trans h.y1, y2 := (hx.cell 2 (L u _ h.y2)).trans h.y2, y3 := (hx.cell 3 (L u _ h.y3)).trans h.y3 }
theorem TX.meet {a b c d : Int} {A B X Y F : Nat} {w0 u v : World} {lo hi ok bad : Int} (h : TX a b c d A B X Y u) (f : FD w0 u F lo hi ok bad v) (hA : A ≠ F) (hB : B ≠ F) (hX : X ≠ F) (hY : Y ≠ F) : TX a b c d A B X Y v :=
  { a0 := (f.oc A 0 hA).trans h.a0, a1 := (f.oc A 1 hA).trans h.a1, b0 := (f.oc B 0 hB).trans h.b0, b1 := (f.oc B 1 hB).trans h.b1, x0 := (f.oc X 0 hX).trans h.x0, x1 := (f.oc X 1 hX).trans h.x1, x2 := (f.oc X 2 hX).trans h.x2, x3 := (f.oc X 3 hX).trans h.x3, y0 := (f.oc Y 0 hY).trans h.y0, y1 := (f.oc Y 1 hY).trans h.y1, y2 := (f.oc Y 2 hY).trans h.y2, y3 := (f.oc Y 3 hY).trans h.y3 }
structure TZ (op a b c d : Int) (w : World) (A B X Y F : Nat) (k : Nat) (u : World) : Prop where
  t : TX a b c d A B X Y u
  f : FD w u F (zL (zs4 op a b c d) k) (zH (zs4 op a b c d) k) (zN (zs4 op a b c d) k) (zB (zs4 op a b c d) k) u
theorem TZ.step {op a b c d : Int} {w u : World} {A B X Y F k : Nat} {z : Int} (t : TX a b c d A B X Y u) (hz : zs4 op a b c d k = z) (hc : okB z = true)
    (f : FD w u F (fl (zN (zs4 op a b c d) k) (zL (zs4 op a b c d) k) z) (fh (zN (zs4 op a b c d) k) (zH (zs4 op a b c d) k) z) (zN (zs4 op a b c d) k + 1) (zB (zs4 op a b c d) k) u) : TZ op a b c d w A B X Y F (k + 1) u := by
  subst hz
  refine ⟨t, ?_⟩
  rw [zL, zH, zN, zB, if_pos hc, if_pos hc, if_pos hc, if_pos hc]; exact f
theorem TZ.miss {op a b c d : Int} {w u : World} {A B X Y F k : Nat} {z : Int} (t : TX a b c d A B X Y u) (hz : zs4 op a b c d k = z) (hc : okB z = false)
    (f : FD w u F (zL (zs4 op a b c d) k) (zH (zs4 op a b c d) k) (zN (zs4 op a b c d) k) (zB (zs4 op a b c d) k + 1) u) : TZ op a b c d w A B X Y F (k + 1) u := by
  subst hz
  refine ⟨t, ?_⟩
  have hn : ¬ (okB (zs4 op a b c d k) = true) := by rw [hc]; simp
  rw [zL, zH, zN, zB, if_neg hn, if_neg hn, if_neg hn, if_neg hn]; exact f
theorem zs4_mn (op a b c d : Int) : mn4 (opz op) a b c d = min (min (min (zs4 op a b c d 0) (zs4 op a b c d 1)) (zs4 op a b c d 2)) (zs4 op a b c d 3) ∧ mx4 (opz op) a b c d = max (max (max (zs4 op a b c d 0) (zs4 op a b c d 1)) (zs4 op a b c d 2)) (zs4 op a b c d 3) := ⟨rfl, rfl⟩
end Go.Proofs.Ytmcajdfbkhaplaa
