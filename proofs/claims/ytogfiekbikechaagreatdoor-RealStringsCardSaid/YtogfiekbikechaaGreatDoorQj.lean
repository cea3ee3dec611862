/- Layer 2: the reference's texts of naturals and zeros; its Print, walked. -/
import Derived.Test.YtogfiekbikechaaGreatDoorQi
import Derived.Lib.SlBytesRow
namespace Go.Proofs.YtogfiekbikechaaGreatDoor
open Go.ChangeShapes Go.WideShapes Go.ChangeAt Go.RowKit

/-- A slice of one byte as a string. -/
theorem one_byte (w : World) (c : UInt8) : (Go.convert 119 9 (.slice (some ⟨w.heap.size, 0, none⟩) 1 1)).run Tryz.prog (w.alloc (.cells #[.int .u8 (c.toNat : Int)] 5)) = .ok (.string (bs [c])) (w.alloc (.cells #[.int .u8 (c.toNat : Int)] 5)) := by
  refine Lib.run_convert_whole (P := Tryz.prog) _ 119 5 9 Tryz.underlying119 Tryz.underlying5 Tryz.underlying9 w.heap.size 0 (bs [c]) ?_ 1
  intro i hi
  have : i = 0 := by rw [bs_size] at hi; simp at hi; omega
  subst this
  simp [go_sem, bs]; rfl
theorem digit_byte {n r : Nat} (h : n % 10 = r) : (n : Int).tmod 10 = (r : Int) ∧ wrap64 (48 + (r : Int)) = ((48 + r : Nat) : Int) ∧ IntKind.i64.wrap (48 + (r : Int)) = ((48 + r : Nat) : Int) ∧ IntKind.u8.wrap ((48 + r : Nat) : Int) = ((UInt8.ofNat (48 + r)).toNat : Int) := by
  subst h
  have hr : n % 10 < 10 := Nat.mod_lt _ (by omega)
  refine ⟨by rw [Int.tmod_eq_emod_of_nonneg (by omega)]; omega, by unfold wrap64; omega, by rw [IntWalk.i64_in _ ⟨by omega, by omega⟩]; omega, ?_⟩
  generalize n % 10 = r at hr
  match r, hr with
  | 0, _ => decide
  | 1, _ => decide
  | 2, _ => decide
  | 3, _ => decide
  | 4, _ => decide
  | 5, _ => decide
  | 6, _ => decide
  | 7, _ => decide
  | 8, _ => decide
  | 9, _ => decide
set_option maxRecDepth 100000 in
set_option maxHeartbeats 4000000 in
theorem text_small (n r s : Nat) (c : UInt8) (h : (n : Int) < 10) (g1 : (n : Int).tmod 10 = (r : Int)) (_g2 : wrap64 (48 + (r : Int)) = (s : Int)) (g3 : IntKind.i64.wrap (48 + (r : Int)) = (s : Int)) (g4 : IntKind.u8.wrap (s : Int) = (c.toNat : Int)) (w : World) :
    Calls Tryz.prog 92 #[.int .i64 (n : Int)] w fun e w' => e = .returned (.string (bs [c])) ∧ Ext w w' := by
  have kc := one_byte w c
  go_enter Tryz.func92, Tryz.ntmps92
  go_wp2
  go_ret
  exact ⟨rfl, (Ext.refl _).alloc _⟩
set_option maxRecDepth 100000 in
set_option maxHeartbeats 4000000 in
theorem text_step (n r s q : Nat) (c : UInt8) (T : ByteArray) (h : ¬ (n : Int) < 10) (g1 : (n : Int).tmod 10 = (r : Int)) (_g2 : wrap64 (48 + (r : Int)) = (s : Int)) (g3 : IntKind.i64.wrap (48 + (r : Int)) = (s : Int)) (g4 : IntKind.u8.wrap (s : Int) = (c.toNat : Int))
    (g5 : (n : Int).tdiv 10 = (q : Int)) (_g6 : wrap64 (q : Int) = (q : Int)) (g7 : IntKind.i64.wrap (q : Int) = (q : Int)) (hT : T.size ≤ 1000) (HT : ∀ w, Calls Tryz.prog 92 #[.int .i64 (q : Int)] w fun e w' => e = .returned (.string T) ∧ Ext w w') (w : World) :
    Calls Tryz.prog 92 #[.int .i64 (n : Int)] w fun e w' => e = .returned (.string (T ++ bs [c])) ∧ Ext w w' := by
  have HH := Lib.hid HT; clear HT
  have kc := one_byte w c
  have sz : (bs [c]).size = 1 := rfl
  go_enter Tryz.func92, Tryz.ntmps92
  go_wp2_with fail
  refine (HH.out _).mono ?_
  rintro e w1 ⟨rfl, hx⟩
  have X1 := Lib.hid (((Ext.refl w).alloc (.cells #[.int .u8 (c.toNat : Int)] 5)).trans hx)
  clear hx kc
  go_wp2
  refine bodyPost_ret (v := .string (T ++ bs [c])) ?_ rfl ⟨rfl, X1.out⟩
  simp [results, Tryz.results92, go_sem]
theorem decL_len : ∀ (f n : Nat), (decL f n).length ≤ f
  | 0, _ => Nat.le_refl _
  | f + 1, n => by
    rw [decL]
    split
    · simp
    · have := decL_len f (n / 10)
      rw [List.length_append, List.length_singleton]; omega
theorem text_any : ∀ (f n : Nat), n < 10 ^ f → 1 ≤ f → f ≤ 12 → n < 9223372036854775808 → ∀ w, Calls Tryz.prog 92 #[.int .i64 (n : Int)] w fun e w' => e = .returned (.string (bs (decL f n))) ∧ Ext w w'
  | 0, _, _, h, _, _ => absurd h (by omega)
  | f + 1, n, hn, _, hf, hb => fun w => by
    obtain ⟨r, hr⟩ : ∃ r, n % 10 = r := ⟨_, rfl⟩
    obtain ⟨g1, g2, g3, g4⟩ := digit_byte hr
    by_cases h : n < 10
    · rw [decL, if_pos h]
      have e : r = n := by omega
      rw [e] at g1 g2 g3 g4
      exact text_small n n _ _ (by omega) g1 g2 g3 g4 w
    · rw [decL, if_neg h, hr, ← bs_append]
      obtain ⟨q, hq⟩ : ∃ q, n / 10 = q := ⟨_, rfl⟩
      rw [hq]
      have hf1 : 1 ≤ f := by
        rcases f with _ | f
        · simp at hn; omega
        · omega
      have hl := decL_len f q
      exact text_step n r _ q _ _ (by omega) g1 g2 g3 g4 (by rw [Int.tdiv_eq_ediv_of_nonneg (by omega)]; omega) (by unfold wrap64; omega) (IntWalk.i64_in _ ⟨by omega, by omega⟩) (by rw [bs_size]; omega)
        (text_any f q (by rw [Nat.pow_succ] at hn; omega) hf1 (by omega) (by omega)) w
set_option maxRecDepth 100000 in
set_option maxHeartbeats 4000000 in
theorem zeros_any (n : Nat) (hn : n ≤ 200) (w : World) : Calls Tryz.prog 93 #[.int .i64 (n : Int)] w fun e w' => e = .returned (.string (bs (List.replicate n 48))) ∧ Ext w w' := by
  have HN := Lib.hid hn; clear hn
  go_enter Tryz.func93, Tryz.ntmps93
  go_wp2
  go_loopw [3, 4] (fun a b u => ∃ (u2 : World) (i : Nat) (S : ByteArray), u2 = u ∧ a = .string S ∧ b = .int .i64 (i : Int) ∧ Hid (i ≤ n) ∧ Hid (S = bs (List.replicate i 48)) ∧ Hid (Ext w u2)) (fun _ b _ => ((n : Int) - intOf b).toNat)
  case atStart => exact ⟨_, 0, _, rfl, rfl, rfl, Lib.hid (Nat.zero_le _), Lib.hid rfl, Lib.hid (Ext.refl _)⟩
  case round =>
    obtain ⟨u, i, S, hu, rfl, rfl, HI, HS, XU⟩ := hrel
    subst hu
    by_cases hlt : i < n
    · have g1 : (i : Int) < (n : Int) := Int.ofNat_lt.2 hlt
      have s1 : S.size ≤ 1000 := by rw [HS.out, bs_size, List.length_replicate]; have := HN.out; omega
      obtain ⟨n1, n2⟩ := step_one (k := i) (by have := HN.out; omega)
      have H1 : Hid (i + 1 ≤ n) := Lib.hid hlt
      have M : Hid (((n : Int) - ((i + 1 : Nat) : Int)).toNat < ((n : Int) - (i : Int)).toNat) := Lib.hid (by clear n1 n2; omega)
      have E : Hid (S ++ (⟨#[48]⟩ : ByteArray) = bs (List.replicate (i + 1) 48)) := Lib.hid (by
        rw [HS.out, List.replicate_succ', show (⟨#[48]⟩ : ByteArray) = bs [48] from rfl, bs_append])
      clear hlt
      go_wp2
      go_roundw
      case rel => exact ⟨_, i + 1, _, rfl, rfl, by first | rfl | go_num, H1, E, XU⟩
      case measure => exact M.out
    · have e : i = n := by have := HI.out; omega
      subst e
      have g1 : ¬ (i : Int) < (i : Int) := Int.lt_irrefl _
      clear hlt
      go_wp2
      go_ret
      exact ⟨by rw [← HS.out]; rfl, XU.out⟩
end Go.Proofs.YtogfiekbikechaaGreatDoor
