/- Layer 2: pieces of numeric strings: plain facts (no program here). -/
/- Regions that draw their order and whose last operations store: a condition that holds till the first of these stores (no program here). -/
/- A result that lies in a variable of memory. -/
import Derived.Test.YtoeahfddnjbhbaaGreatDoorGa
import Derived.Lib.Strings
import Derived.Lib.SlTrimSet
import Derived.Deep.RegionHeld
import Derived.WalkKit
import Derived.Tactics
namespace Go.Proofs.YtoeahfddnjbhbaaGreatDoor

/-- A string out of its bytes. -/
def bs (l : List UInt8) : ByteArray := ⟨l.toArray⟩
theorem bs_list (l : List UInt8) : (bs l).data.toList = l := by simp [bs]
theorem bs_size (l : List UInt8) : (bs l).size = l.length := rfl
theorem bs_of (s : ByteArray) : s = bs s.data.toList := by
  obtain ⟨⟨l⟩⟩ := s; rfl
theorem bs_toList (l : List UInt8) : (bs l).toList = l := by rw [Lib.toList_data, bs_list]
theorem bs_append (a b : List UInt8) : bs a ++ bs b = bs (a ++ b) := by
  rw [bs_of (bs a ++ bs b)]
  congr 1
theorem cut_prefix (l : List UInt8) (c : UInt8) : Lib.trimPrefix l [c] = (cut1 c l).1 ∧ Lib.hasPrefix l [c] = (cut1 c l).2 := by
  cases l with
  | nil => exact ⟨rfl, rfl⟩
  | cons a r =>
    have h : Lib.hasPrefix (a :: r) [c] = decide (a = c) := by
      unfold Lib.hasPrefix
      simp only [List.isPrefixOf]
      by_cases e : a = c
      · subst e; simp
      · simp [e, Ne.symm e]
    unfold Lib.trimPrefix cut1
    rw [h]
    by_cases e : a = c <;> simp [e]
theorem dig_set (c : UInt8) : [48, 49, 50, 51, 52, 53, 54, 55, 56, 57].contains c = isDg c := by
  have : ∀ c : Fin 256, [48, 49, 50, 51, 52, 53, 54, 55, 56, 57].contains (UInt8.ofNat c.val) = isDg (UInt8.ofNat c.val) := by decide +kernel
  have h := this ⟨c.toNat, c.toNat_lt⟩
  simpa using h
theorem trim_digits (l : List UInt8) : Lib.trimLeftS l [48, 49, 50, 51, 52, 53, 54, 55, 56, 57] = rest l := by
  unfold Lib.trimLeftS rest
  congr 1
  funext c
  exact dig_set c
theorem trim_zeros (l : List UInt8) : Lib.trimLeftS l [48] = l.dropWhile (· == 48) := by
  unfold Lib.trimLeftS
  congr 1
  funext c
  show (match c == 48 with | true => true | false => false) = (c == 48)
  cases (c == 48) <;> rfl
theorem digs_rest (l : List UInt8) : digs l ++ rest l = l := List.takeWhile_append_dropWhile
theorem digs_len (l : List UInt8) : (digs l).length + (rest l).length = l.length := by
  have := congrArg List.length (digs_rest l); rw [List.length_append] at this; exact this
theorem digs_take (l : List UInt8) : l.take (l.length - (rest l).length) = digs l := by
  have h := digs_len l
  have e : l.length - (rest l).length = (digs l).length := by omega
  rw [e]
  have h2 := digs_rest l
  generalize digs l = a at *
  generalize rest l = b at *
  subst h2
  exact List.take_left
theorem digs_all (l : List UInt8) : (digs l).all isDg = true := by
  unfold digs
  induction l with
  | nil => rfl
  | cons a r ih =>
    by_cases h : isDg a = true
    · rw [List.takeWhile_cons, if_pos h, List.all_cons, h, ih]; rfl
    · rw [List.takeWhile_cons, if_neg h]; rfl
theorem extract_digs (l : List UInt8) : (bs l).extract 0 (l.length - (rest l).length) = bs (digs l) := by
  rw [bs_of ((bs l).extract 0 (l.length - (rest l).length))]
  congr 1
  rw [Lib.extract_data, bs_list, List.drop_zero, Nat.sub_zero, digs_take]
theorem drop_le (p : UInt8 → Bool) (l : List UInt8) : (l.dropWhile p).length ≤ l.length := (List.dropWhile_sublist p).length_le
theorem cut1_le (c : UInt8) (l : List UInt8) : (cut1 c l).1.length ≤ l.length := by
  cases l with
  | nil => exact Nat.le_refl _
  | cons a r =>
    show (if a = c then (r, true) else (a :: r, false)).1.length ≤ _
    by_cases e : a = c
    · rw [if_pos e]; simp
    · rw [if_neg e]; exact Nat.le_refl _
theorem expF_snoc (l : List UInt8) (c : UInt8) : expF (l ++ [c]) = expS (expF l) c := by unfold expF; rw [List.foldl_append]; rfl
theorem expS_bd {n : Int} {c : UInt8} (h : 0 ≤ n) (hc : isDg c = true) : 0 ≤ expS n c ∧ expS n c ≤ 10000 := by
  unfold isDg at hc; simp at hc; unfold expS; omega
theorem exp_bd : ∀ (l : List UInt8) (n : Int), 0 ≤ n → n ≤ 10000 → l.all isDg = true → 0 ≤ l.foldl expS n ∧ l.foldl expS n ≤ 10000
  | [], n, h, h', _ => ⟨h, h'⟩
  | c :: r, n, h, h', ha => by
    rw [List.all_cons, Bool.and_eq_true] at ha
    have := expS_bd h ha.1
    exact exp_bd r (expS n c) this.1 this.2 ha.2
theorem expF_bd {l : List UInt8} (h : l.all isDg = true) : 0 ≤ expF l ∧ expF l ≤ 10000 := exp_bd l 0 (by omega) (by omega) h
theorem whole_digs {l : List UInt8} (h : rest l = []) : digs l = l := by
  have := digs_rest l; rw [h, List.append_nil] at this; exact this
end Go.Proofs.YtoeahfddnjbhbaaGreatDoor

namespace Go.Proofs.YtoeahfddnjbhbaaGreatDoor
open Go

section
variable {P : Program} {ops : Array Oper} {Q : Exit → Act → World → Prop} {md : Region.Mode} {T : World → Prop} {s : Nat}

/-- What is listed has what it waits for listed. -/
def ClosedL (md : Region.Mode) (ops : Array Oper) (listed : Array Bool) : Prop :=
  ∀ (j : Nat) (o : Oper), ops[j]? = some o → listed.getD j false = true → ∀ e ∈ o.after, Region.binds md e = true → listed.getD e.on false = true
theorem closed_set {listed : Array Bool} {i : Nat} (h : ClosedL md ops listed) (hr : i ∈ Region.ready md ops listed) : ClosedL md ops (listed.setIfInBounds i true) := by
  intro j o hj hl e he hb
  by_cases hij : i = j
  · subst hij
    obtain ⟨_, o', ho', hall⟩ := mem_ready.1 hr
    rw [hj] at ho'; cases ho'
    exact getD_set_true (hall e he hb)
  · rw [getD_set_ne false hij] at hl
    exact getD_set_true (h j o hj hl e he hb)
theorem closed_start (n : Nat) : ClosedL md ops (Array.replicate n false) := by
  intro j o hj hl
  exfalso
  rw [Array.getD_eq_getD_getElem?, Array.getElem?_replicate] at hl
  split at hl <;> simp at hl
/-- All that the operations marked wait for, one behind the other from place n downwards. -/
def marksL (md : Region.Mode) (ops : Array Oper) : Nat → List Nat → List Nat
  | 0, m => m
  | j + 1, m => marksL md ops j (if m.contains j then (match ops[j]? with | some o => m ++ (o.after.toList.filter (Region.binds md)).map (·.on) | none => m) else m)
theorem marks_listed {listed : Array Bool} (h : ClosedL md ops listed) : ∀ (n : Nat) (m : List Nat), (∀ i ∈ m, listed.getD i false = true) → ∀ i ∈ marksL md ops n m, listed.getD i false = true
  | 0, _, hm => hm
  | j + 1, m, hm => by
    refine marks_listed h j _ ?_
    split
    · rename_i hc
      have hj : j ∈ m := by simpa using hc
      split
      · rename_i o ho
        intro i hi
        rcases List.mem_append.1 hi with hi | hi
        · exact hm i hi
        · obtain ⟨e, he, rfl⟩ := List.mem_map.1 hi
          obtain ⟨he1, he2⟩ := List.mem_filter.1 he
          exact h j o ho (hm j hj) e (by simpa using he1) he2
      · exact hm
    · exact hm
/-- Operation s waits for operation i. -/
def beforeL (md : Region.Mode) (ops : Array Oper) (s i : Nat) : Bool := i != s && (marksL md ops (s + 1) [s]).contains i
theorem not_yet {listed : Array Bool} {i : Nat} (h : ClosedL md ops listed) (hb : beforeL md ops s i = true) (hi : listed.getD i false = false) : listed.getD s false = false := by
  cases e : listed.getD s false with
  | false => rfl
  | true =>
    exfalso
    unfold beforeL at hb
    rw [Bool.and_eq_true] at hb
    have := marks_listed h (s + 1) [s] (by intro k hk; simp at hk; subst hk; exact e) i (by simpa using hb.2)
    rw [hi] at this; cases this
theorem getD_both {l : Array Bool} {i : Nat} (h : l.getD i true = false) : l.getD i false = false := by
  rcases Nat.lt_or_ge i l.size with h' | h'
  · simp [h'] at h ⊢; exact h
  · simp [Array.getElem?_eq_none h'] at h

/-- Whatever order is picked from here on; T holds behind every operation till s has come up. -/
def wpAnyS (P : Program) (md : Region.Mode) (ops : Array Oper) (Q : Exit → Act → World → Prop) (T : World → Prop) (s : Nat) : Nat → Array Bool → Act → World → Prop
  | 0, listed, a, w => Region.ready md ops listed = [] ∧ Q .normal a w
  | fuel + 1, listed, a, w =>
    (Region.ready md ops listed = [] → Q .normal a w) ∧
    ∀ i ∈ Region.ready md ops listed, wpOp P ops Q i (fun a' w' => ((listed.setIfInBounds i true).getD s false = false → T w') ∧ wpAnyS P md ops Q T s fuel (listed.setIfInBounds i true) a' w') a w
theorem wpAny_of_S : ∀ (fuel : Nat) (listed : Array Bool) (a : Act) (w : World), wpAnyS P md ops Q T s fuel listed a w → wpAny P md ops Q fuel listed a w
  | 0, _, _, _, h => h
  | fuel + 1, _, _, _, h => ⟨h.1, fun i hi => wpOp_mono (fun a' w' h' => wpAny_of_S fuel _ a' w' h'.2) (h.2 i hi)⟩
theorem wpAnyS_first {i : Nat} {oi : Oper} {v : Value} (hi : ops[i]? = some oi) (hsel : ∀ (j : Nat) (o : Oper) cs b, ops[j]? = some o → o.op ≠ .select cs b)
    (hQ : ∀ c a w, Q (.panic c) (a.put oi.dst v) w → Q (.panic c) a w) (hb : beforeL md ops s i = true) :
    ∀ (fuel : Nat) (listed : Array Bool) (a : Act) (w : World), ClosedL md ops listed →
      (∀ j oj, ops[j]? = some oj → j ≠ i → listed.getD j true = false → (∀ e ∈ oj.after, Region.binds md e = true → e.on ≠ i) → oi.apart ops oj = true) →
      i ∈ Region.ready md ops listed → YieldsIf P ops T oi v a → T w →
      wpAnyS P md ops Q T s fuel (listed.setIfInBounds i true) (a.put oi.dst v) w → wpAnyS P md ops Q T s (fuel + 1) listed a w := by
  have his : i ≠ s := by
    unfold beforeL at hb; rw [Bool.and_eq_true] at hb; simpa using hb.1
  intro fuel
  induction fuel with
  | zero =>
    intro listed a w _ _ hr hy hT H
    refine ⟨fun h => (by rw [h] at hr; cases hr), fun j hj => ?_⟩
    by_cases hji : j = i
    · subst hji; exact hy.wpOp hi hT ⟨fun _ => hT, H⟩
    · have := ready_mono hj hji
      rw [H.1] at this
      cases this
  | succ fuel ih =>
    intro listed a w hcl hfree hr hy hT H
    refine ⟨fun h => (by rw [h] at hr; cases hr), fun j hj => ?_⟩
    by_cases hji : j = i
    · subst hji; exact hy.wpOp hi hT ⟨fun _ => hT, H⟩
    · have h1 := H.2 j (ready_mono hj hji)
      have hij : i ≠ j := fun e => hji e.symm
      obtain ⟨hjun, oj, hoj, hall⟩ := mem_ready.1 hj
      have hun0 := (mem_ready.1 hr).1
      have hnot : ∀ e ∈ oj.after, Region.binds md e = true → e.on ≠ i := fun e he hb' heq => by
        have g1 := hall e he hb'
        rw [heq, getD_both hun0] at g1; cases g1
      have hcl2 := closed_set hcl hj
      have hns : (listed.setIfInBounds j true).getD s false = false := not_yet hcl2 hb (by rw [getD_set_ne false hji]; exact getD_both hun0)
      have h2 := wpOp_putIf hoj (hfree j oj hoj hji hjun hnot) (fun cs b => hsel i oi cs b hi) (fun cs b => hsel j oj cs b hoj) hQ hy h1
      have hfree' : ∀ k ok, ops[k]? = some ok → k ≠ i → (listed.setIfInBounds j true).getD k true = false →
          (∀ e ∈ ok.after, Region.binds md e = true → e.on ≠ i) → oi.apart ops ok = true := fun k ok hk hki hun hno => by
        refine hfree k ok hk hki ?_ hno
        by_cases hjk : j = k
        · subst hjk; exact hjun
        · rw [getD_set_ne true hjk] at hun; exact hun
      refine wpOp_mono (fun a' w' h3 => ?_) h2
      have hT' : T w' := h3.2.1 (by rw [Array.setIfInBounds_comm _ _ hij, getD_set_ne false his]; exact hns)
      refine ⟨fun _ => hT', ih (listed.setIfInBounds j true) a' w' hcl2 hfree' (ready_mono hr hij) h3.1 hT' ?_⟩
      rw [Array.setIfInBounds_comm _ _ hji]
      exact h3.2.2

/-- The rest of the region, from a list that is closed. -/
def GoS (P : Program) (md : Region.Mode) (ops : Array Oper) (Q : Exit → Act → World → Prop) (T : World → Prop) (s fuel : Nat) (listed : Array Bool) (a : Act) (w : World) : Prop :=
  ClosedL md ops listed → wpAnyS P md ops Q T s fuel listed a w
theorem GoS.take {i : Nat} {oi : Oper} {v : Value} {fuel : Nat} {listed : Array Bool} {a : Act} {w : World} (hi : ops[i]? = some oi)
    (hs : Region.noSelect ops = true) (hf : Region.free md ops listed i = true) (hr : (Region.ready md ops listed).contains i = true) (hb : beforeL md ops s i = true)
    (hQ : ∀ c a w, Q (.panic c) (a.put oi.dst v) w → Q (.panic c) a w) (hy : YieldsIf P ops T oi v a) (hT : T w)
    (h : GoS P md ops Q T s fuel (listed.setIfInBounds i true) (a.put oi.dst v) w) : GoS P md ops Q T s (fuel + 1) listed a w := fun hcl =>
  have hr' : i ∈ Region.ready md ops listed := by simpa using hr
  wpAnyS_first hi (Region.noSelect_spec hs) hQ hb fuel listed a w hcl (Region.free_spec hi hf) hr' hy hT (h (closed_set hcl hr'))
theorem wpAnyS_pure {i : Nat} {oi : Oper} {v : Value} (hi : ops[i]? = some oi) (hsel : ∀ (j : Nat) (o : Oper) cs b, ops[j]? = some o → o.op ≠ .select cs b)
    (hQ : ∀ c a w, Q (.panic c) (a.put oi.dst v) w → Q (.panic c) a w) (his : i ≠ s) :
    ∀ (fuel : Nat) (listed : Array Bool) (a : Act) (w : World),
      (∀ j oj, ops[j]? = some oj → j ≠ i → listed.getD j true = false → (∀ e ∈ oj.after, Region.binds md e = true → e.on ≠ i) → oi.apart ops oj = true) →
      i ∈ Region.ready md ops listed → YieldsIf P ops (fun _ => True) oi v a → (listed.getD s false = false → T w) →
      wpAnyS P md ops Q T s fuel (listed.setIfInBounds i true) (a.put oi.dst v) w → wpAnyS P md ops Q T s (fuel + 1) listed a w := by
  intro fuel
  induction fuel with
  | zero =>
    intro listed a w _ hr hy hT H
    refine ⟨fun h => (by rw [h] at hr; cases hr), fun j hj => ?_⟩
    by_cases hji : j = i
    · subst hji; exact hy.wpOp hi trivial ⟨fun e => hT (by rw [getD_set_ne false his] at e; exact e), H⟩
    · have := ready_mono hj hji
      rw [H.1] at this
      cases this
  | succ fuel ih =>
    intro listed a w hfree hr hy hT H
    refine ⟨fun h => (by rw [h] at hr; cases hr), fun j hj => ?_⟩
    by_cases hji : j = i
    · subst hji; exact hy.wpOp hi trivial ⟨fun e => hT (by rw [getD_set_ne false his] at e; exact e), H⟩
    · have h1 := H.2 j (ready_mono hj hji)
      have hij : i ≠ j := fun e => hji e.symm
      obtain ⟨hjun, oj, hoj, hall⟩ := mem_ready.1 hj
      have hun0 := (mem_ready.1 hr).1
      have hnot : ∀ e ∈ oj.after, Region.binds md e = true → e.on ≠ i := fun e he hb' heq => by
        have g1 := hall e he hb'
        rw [heq, getD_both hun0] at g1; cases g1
      have h2 := wpOp_putIf hoj (hfree j oj hoj hji hjun hnot) (fun cs b => hsel i oi cs b hi) (fun cs b => hsel j oj cs b hoj) hQ hy h1
      have hfree' : ∀ k ok, ops[k]? = some ok → k ≠ i → (listed.setIfInBounds j true).getD k true = false →
          (∀ e ∈ ok.after, Region.binds md e = true → e.on ≠ i) → oi.apart ops ok = true := fun k ok hk hki hun hno => by
        refine hfree k ok hk hki ?_ hno
        by_cases hjk : j = k
        · subst hjk; exact hjun
        · rw [getD_set_ne true hjk] at hun; exact hun
      refine wpOp_mono (fun a' w' h3 => ?_) h2
      have hT' : (listed.setIfInBounds j true).getD s false = false → T w' := fun e => h3.2.1 (by rw [Array.setIfInBounds_comm _ _ hij, getD_set_ne false his]; exact e)
      refine ⟨hT', ih (listed.setIfInBounds j true) a' w' hfree' (ready_mono hr hij) h3.1 hT' ?_⟩
      rw [Array.setIfInBounds_comm _ _ hji]
      exact h3.2.2
/-- An operation that yields its value in every world. -/
theorem GoS.pure {i : Nat} {oi : Oper} {v : Value} {fuel : Nat} {listed : Array Bool} {a : Act} {w : World} (hi : ops[i]? = some oi)
    (hs : Region.noSelect ops = true) (hf : Region.free md ops listed i = true) (hr : (Region.ready md ops listed).contains i = true) (hb : (i != s) = true)
    (hQ : ∀ c a w, Q (.panic c) (a.put oi.dst v) w → Q (.panic c) a w) (hy : YieldsIf P ops (fun _ => True) oi v a) (hT : listed.getD s false = false → T w)
    (h : GoS P md ops Q T s fuel (listed.setIfInBounds i true) (a.put oi.dst v) w) : GoS P md ops Q T s (fuel + 1) listed a w := fun hcl =>
  have hr' : i ∈ Region.ready md ops listed := by simpa using hr
  wpAnyS_pure hi (Region.noSelect_spec hs) hQ (by simpa using hb) fuel listed a w (Region.free_spec hi hf) hr' hy hT (h (closed_set hcl hr'))
/-- .. behind the first store. -/
theorem GoS.behind {i : Nat} {oi : Oper} {v : Value} {fuel : Nat} {listed : Array Bool} {a : Act} {w : World} (hi : ops[i]? = some oi)
    (hs : Region.noSelect ops = true) (hf : Region.free md ops listed i = true) (hr : (Region.ready md ops listed).contains i = true) (hb : (i != s) = true)
    (hQ : ∀ c a w, Q (.panic c) (a.put oi.dst v) w → Q (.panic c) a w) (hy : YieldsIf P ops (fun _ => True) oi v a) (hl : listed.getD s false = true)
    (h : GoS P md ops Q T s fuel (listed.setIfInBounds i true) (a.put oi.dst v) w) : GoS P md ops Q T s (fuel + 1) listed a w :=
  GoS.pure hi hs hf hr hb hQ hy (fun e => (by rw [hl] at e; cases e)) h
/-- A single operation comes up (a call): T is shown anew behind it. -/
theorem GoS.one {i : Nat} {o : Oper} {fuel : Nat} {listed : Array Bool} {a : Act} {w : World} (hr : Region.ready md ops listed = [i]) (ho : ops[i]? = some o)
    (h : ∀ K' : Act → World → Prop, Shut (∀ a w, T w → (T w → GoS P md ops Q T s fuel (listed.setIfInBounds i true) a w) → K' a w) → if Region.wanted o (yielded ops a.tmps) = true then Oper.wp P o a w K' Q else K' (a.put o.dst undef) w) :
    GoS P md ops Q T s (fuel + 1) listed a w := fun hcl => by
  refine ⟨fun h0 => (by rw [hr] at h0; cases h0), fun j hj => ?_⟩
  have hj' := hj
  rw [hr] at hj'
  obtain rfl : j = i := by simpa using hj'
  exact wpOp_step ho (fun K' hK => h K' (fun a w hT hW => hK a w ⟨fun _ => hT, hW hT (closed_set hcl hj)⟩))
/-- A single operation comes up: the first store, or one behind it. -/
theorem GoS.store {i : Nat} {o : Oper} {fuel : Nat} {listed : Array Bool} {a : Act} {w : World} (hr : Region.ready md ops listed = [i]) (ho : ops[i]? = some o) (hl : (listed.setIfInBounds i true).getD s false = true)
    (h : ∀ K' : Act → World → Prop, Shut (∀ a w, GoS P md ops Q T s fuel (listed.setIfInBounds i true) a w → K' a w) → if Region.wanted o (yielded ops a.tmps) = true then Oper.wp P o a w K' Q else K' (a.put o.dst undef) w) :
    GoS P md ops Q T s (fuel + 1) listed a w := fun hcl => by
  refine ⟨fun h0 => (by rw [hr] at h0; cases h0), fun j hj => ?_⟩
  have hj' := hj
  rw [hr] at hj'
  obtain rfl : j = i := by simpa using hj'
  exact wpOp_step ho (fun K' hK => h K' (fun a w hW => hK a w ⟨fun e => (by rw [hl] at e; cases e), hW (closed_set hcl hj)⟩))
theorem GoS.done {fuel : Nat} {listed : Array Bool} {a : Act} {w : World} (hr : Region.ready md ops listed = []) (h : Q .normal a w) : GoS P md ops Q T s fuel listed a w := fun _ => by
  cases fuel with
  | zero => exact ⟨hr, h⟩
  | succ f => exact ⟨fun _ => h, by rw [hr]; simp⟩
theorem wp_region_S {id : Nat} {a : Act} {w : World} (T : World → Prop) (s : Nat) (hm : P.follows .mixedOrders = true)
    (h : GoS P .any ops Q T s ops.size (Array.replicate ops.size false) a w.drew) : (Code.region id ops true).wp P Q a w :=
  wp_region_any hm (wpAny_of_S _ _ _ _ (h (closed_start _)))
end
end Go.Proofs.YtoeahfddnjbhbaaGreatDoor

namespace Go.Proofs.YtoeahfddnjbhbaaGreatDoor
open Go.RowKit
theorem results_cell {P : Program} {fn : Func} {tmps : Array Value} {u : World} {s : Tmp} {t : TypeId} {ad : Addr} {v : Value} (hr : fn.results = #[.cell s t]) (hs : tmps.getD s undef = .pointer (some ad))
    (hl : (loadVar t ad).run P u = .ok v u) : (results fn tmps).run P u = .ok v u := by
  have h : results fn tmps = (do let x ← loadVar t ad; pure x) := by
    unfold results
    rw [hr]
    simp only [Array.mapM_eq_mapM_toList, List.mapM_cons, List.mapM_nil, hs, asAddr]
    generalize hc : loadVar t ad = c
    simp
    exact hc
  rw [h]
  simp only [Sem.run_bind, hl, Result.andThen_ok, Sem.run_pure]
end Go.Proofs.YtoeahfddnjbhbaaGreatDoor
