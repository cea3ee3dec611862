/- Layer 2: the marks below a root, by squares (no program here). -/
/- Layer 2: the ratio of two naturals, rounded, is the nearest real (no program here). -/
/- Layer 2: a numeric string's parts are rounded to the nearest real (no program here). -/
/- Layer 2: a numeric string's parts are rounded to the nearest real, whatever its exponent (no program here). -/
/- Layer 2: what Print's decimal fraction is: its loops end, and no number overflows (no program here). -/
/- Layer 2: Print's decimal fraction of a real (no program here). -/
/- Layer 2: the digits that Print writes: they end, and their number is near enough (no program here). -/
/- Layer 2: the digits of Print denote a number that is rounded to the real; with the last one left out they don't (no program here). -/
/- Layer 2: Print's loops end for every real; its digits, at most nine, denote a number that is rounded to it (no program here). -/
/- Layer 2: how a text with a point, and an exponent behind it, is read (no program here). -/
/- Layer 2: the texts that Print lays out are read back as the number of their digits (no program here). -/
/- Layer 2: Parse undoes Print: the text of a real that is not 0 is read as this real (no program here). -/
/- Layer 2: with the last digit made 0 a real's text denotes another real (no program here). -/
import Derived.Test.YtogfiekbikechaaGreatDoorGr
import Derived.Test.YtogfiekbikechaaGreatDoorGs
import Derived.Test.YtogfiekbikechaaGreatDoorGm
import Derived.Test.YtogfiekbikechaaGreatDoorGq
namespace Go.Proofs.YtogfiekbikechaaGreatDoor

theorem expo_top : expoN 2533359615 = 300 := by decide
theorem mant_top : mantN 2533359615 = 16777215 := by decide
end Go.Proofs.YtogfiekbikechaaGreatDoor

namespace Go.Proofs.YtogfiekbikechaaGreatDoor

theorem rsteps_inv {a b : Nat} (hb : 2 * b ≤ M384) (ha : a < 2 * b) : ∀ k, a * 2 ^ k = (rsteps b k (0, a)).1 * (2 * b) + (rsteps b k (0, a)).2 ∧ (rsteps b k (0, a)).2 < 2 * b
  | 0 => by simp [rsteps, ha]
  | k + 1 => by
    obtain ⟨h1, h2⟩ := rsteps_inv hb ha k
    show a * 2 ^ (k + 1) = (rstep b (rsteps b k (0, a))).1 * (2 * b) + (rstep b (rsteps b k (0, a))).2 ∧ (rstep b (rsteps b k (0, a))).2 < 2 * b
    generalize rsteps b k (0, a) = s at *
    obtain ⟨m, r⟩ := s
    simp only at h1 h2
    unfold rstep
    rw [Nat.pow_succ, ← Nat.mul_assoc, h1]
    by_cases c : b ≤ r
    · rw [if_pos c]
      have e : (r - b + (r - b)) % M384 = r - b + (r - b) := Nat.mod_eq_of_lt (by omega)
      simp only [e]
      have e2 : (m * 2 + 1) * (2 * b) = m * (2 * b) * 2 + 2 * b := by rw [Nat.add_mul, Nat.one_mul, Nat.mul_right_comm]
      rw [e2]
      generalize m * (2 * b) = X
      omega
    · rw [if_neg c]
      have e : (r + r) % M384 = r + r := Nat.mod_eq_of_lt (by omega)
      simp only [e]
      have e2 : m * 2 * (2 * b) = m * (2 * b) * 2 := by rw [Nat.mul_right_comm]
      rw [e2]
      generalize m * (2 * b) = X
      omega
theorem pow_le_M {k : Nat} (h : k ≤ 384) : 2 ^ k ≤ M384 := by
  unfold M384
  generalize hK : 384 = K at *
  exact Nat.pow_le_pow_right (by omega) h
/-- What the 32 rounds of the division leave. -/
theorem ratio_parts {a b : Nat} (ha : 0 < a) (hb : 0 < b) (na : nb a ≤ 380) (nbb : nb b ≤ 380) : ∃ A B i j : Nat, A = a * 2 ^ i ∧ B = b * 2 ^ j ∧ ratioE a b = (j : Int) - i ∧ (i = 0 ∨ j = 0) ∧ A * 2 ^ 32 = (ratioS a b).1 * (2 * B) + (ratioS a b).2 ∧ (ratioS a b).2 < 2 * B ∧ B < 2 * A ∧ 0 < B ∧ A < 2 * B := by
  obtain ⟨p1, p2, p3⟩ := nb_bounds (n := a) (by omega)
  obtain ⟨q1, q2, q3⟩ := nb_bounds (n := b) (by omega)
  unfold ratioS
  by_cases c : 0 < ratioE a b
  · simp only [if_pos c]
    unfold ratioE at c ⊢
    obtain ⟨E, hE⟩ : ∃ E, ((nb a : Int) - nb b).toNat = E := ⟨_, rfl⟩
    rw [hE]
    have e1 : nb b + E = nb a := by omega
    have b1 : b * 2 ^ E < 2 ^ nb a := by rw [← e1, Nat.pow_add]; exact Nat.mul_lt_mul_of_pos_right q3 (pow_pos2 _)
    have b2 : 2 ^ (nb a - 1) ≤ b * 2 ^ E := by rw [show nb a - 1 = nb b - 1 + E by omega, Nat.pow_add]; exact Nat.mul_le_mul_right _ q2
    have b3 : 2 ^ nb a = 2 * 2 ^ (nb a - 1) := by rw [Nat.mul_comm, ← Nat.pow_succ]; congr 1; omega
    have b4 : 2 * 2 ^ nb a ≤ M384 := by rw [Nat.mul_comm, ← Nat.pow_succ]; exact pow_le_M (by omega)
    have hs : shN b E = b * 2 ^ E := Nat.mod_eq_of_lt (by omega)
    rw [hs]
    obtain ⟨h1, h2⟩ := rsteps_inv (a := a) (b := b * 2 ^ E) (by omega) (by omega) 32
    exact ⟨a, b * 2 ^ E, 0, E, by rw [Nat.pow_zero, Nat.mul_one], rfl, by omega, .inl rfl, h1, h2, by omega, by have := pow_pos2 (nb a - 1); omega, by omega⟩
  · simp only [if_neg c]
    unfold ratioE at c ⊢
    obtain ⟨E, hE⟩ : ∃ E, (-((nb a : Int) - nb b)).toNat = E := ⟨_, rfl⟩
    rw [hE]
    have e1 : nb a + E = nb b := by omega
    have b1 : a * 2 ^ E < 2 ^ nb b := by rw [← e1, Nat.pow_add]; exact Nat.mul_lt_mul_of_pos_right p3 (pow_pos2 _)
    have b2 : 2 ^ (nb b - 1) ≤ a * 2 ^ E := by rw [show nb b - 1 = nb a - 1 + E by omega, Nat.pow_add]; exact Nat.mul_le_mul_right _ p2
    have b3 : 2 ^ nb b = 2 * 2 ^ (nb b - 1) := by rw [Nat.mul_comm, ← Nat.pow_succ]; congr 1; omega
    have b4 : 2 * 2 ^ nb b ≤ M384 := by rw [Nat.mul_comm, ← Nat.pow_succ]; exact pow_le_M (by omega)
    have hs : shN a E = a * 2 ^ E := Nat.mod_eq_of_lt (by omega)
    rw [hs]
    obtain ⟨h1, h2⟩ := rsteps_inv (a := a * 2 ^ E) (b := b) (by omega) (by omega) 32
    exact ⟨a * 2 ^ E, b, E, 0, rfl, by rw [Nat.pow_zero, Nat.mul_one], by omega, .inr rfl, h1, h2, by omega, hb, by omega⟩
theorem ratio_core {q t B den s K P : Nat} {exp : Int} (neg : Bool) (hden : 0 < den) (hs : 0 ≤ exp + 151 + s) (hG : 2 ^ (exp + 151 + s).toNat * den = 2 * B * K) (hK : 0 < K) (hP : P = q * (2 * B * K) + t * K) (ht : t < 2 * B) (hq1 : q < 18446744073709551616) (hq2 : 33554432 ≤ q) :
    ∃ r, Near P (2 ^ s * den) r ∧ roundV neg q exp (decide (t ≠ 0)) = resI neg r := by
  refine roundV_near neg q exp _ s den P hden hs hq1 ?_ ?_ ?_ ?_ (fun _ => hq2)
  · rw [hG, hP]; omega
  · rw [hG, hP, Nat.add_mul, Nat.one_mul]
    have := Nat.mul_lt_mul_of_pos_right ht hK
    omega
  · intro h
    have t0 : t = 0 := by simpa using h
    rw [hG, hP, t0, Nat.zero_mul, Nat.add_zero]
  · intro h e
    have t0 : t ≠ 0 := by simpa using h
    rw [hG, hP] at e
    have := Nat.mul_pos (show 0 < t by omega) hK
    omega
theorem ratio_near {a b : Nat} (neg : Bool) (ha : 0 < a) (hb : 0 < b) (na : nb a ≤ 380) (nbb : nb b ≤ 380) :
    ∃ r, Near (a * tw 151) b r ∧ roundV neg (ratioS a b).1 (ratioE a b - 31) (decide ((ratioS a b).2 ≠ 0)) = resI neg r := by
  obtain ⟨A, B, i, j, hA, hB, he, hij, h1, h2, h3, h4, h5⟩ := ratio_parts ha hb na nbb
  rw [he]
  generalize (ratioS a b).1 = q at *
  generalize (ratioS a b).2 = t at *
  clear he na nbb
  have hq1 : q < 4294967296 := by
    rcases Nat.lt_or_ge q 4294967296 with g | g
    · exact g
    · have := Nat.mul_le_mul_right (2 * B) g
      omega
  have hq2 : 33554432 ≤ q := by
    rcases Nat.lt_or_ge q 33554432 with g | g
    · have := Nat.mul_le_mul_right (2 * B) (show q + 1 ≤ 33554432 from g)
      rw [Nat.add_mul, Nat.one_mul] at this
      omega
    · exact g
  have e1 : tw 151 = 2 ^ 32 * tw 119 := by unfold tw; rw [← Nat.pow_add]
  have e2 : tw 120 = 2 * tw 119 := by unfold tw; rw [Nat.mul_comm, ← Nat.pow_succ]
  have hK := tw_pos 119
  have hP : A * tw 151 = q * (2 * B * tw 119) + t * tw 119 := by
    rw [e1, ← Nat.mul_assoc, h1, Nat.add_mul, Nat.mul_assoc]
  rcases hij with rfl | rfl
  · rw [Nat.pow_zero, Nat.mul_one] at hA
    subst hA
    have hG : 2 ^ ((j : Int) - (0 : Nat) - 31 + 151 + (0 : Nat)).toNat * b = 2 * B * tw 119 := by
      rw [show ((j : Int) - (0 : Nat) - 31 + 151 + (0 : Nat)).toNat = j + 120 by omega, Nat.pow_add, show (2 : Nat) ^ 120 = tw 120 from rfl, e2, hB]
      ac_rfl
    obtain ⟨r, hr, hv⟩ := ratio_core neg hb (by omega) hG hK hP h2 (by omega) hq2
    exact ⟨r, by rwa [Nat.pow_zero, Nat.one_mul] at hr, hv⟩
  · rw [Nat.pow_zero, Nat.mul_one] at hB
    subst hB
    have hG : 2 ^ (((0 : Nat) : Int) - (i : Nat) - 31 + 151 + (i : Nat)).toNat * B = 2 * B * tw 119 := by
      rw [show (((0 : Nat) : Int) - (i : Nat) - 31 + 151 + (i : Nat)).toNat = 120 by omega, show (2 : Nat) ^ 120 = tw 120 from rfl, e2]
      ac_rfl
    obtain ⟨r, hr, hv⟩ := ratio_core neg hb (by omega) hG hK hP h2 (by omega) hq2
    refine ⟨r, ?_, hv⟩
    rw [hA, Nat.mul_comm (2 ^ i), Nat.mul_right_comm] at hr
    exact (near_scale (pow_pos2 i)).1 hr
end Go.Proofs.YtogfiekbikechaaGreatDoor

namespace Go.Proofs.YtogfiekbikechaaGreatDoor

theorem least_of (p : Nat → Prop) : ∀ n, p n → ∃ m, m ≤ n ∧ p m ∧ ∀ j, j < m → ¬ p j := by
  intro n
  induction n using Nat.strongRecOn with
  | ind n ih =>
    intro hn
    by_cases h : ∃ j, j < n ∧ p j
    · obtain ⟨j, h1, h2⟩ := h
      obtain ⟨m, a, b, c⟩ := ih j h1 h2
      exact ⟨m, by omega, b, c⟩
    · exact ⟨n, Nat.le_refl _, hn, fun j hj hp => h ⟨j, hj, hp⟩⟩
theorem mid_ge (r : Nat) : r ≤ midN r := by
  induction r with
  | zero => omega
  | succ r ih => have := mid_mono (r := r) (s := r + 1) (by omega); omega
theorem near_exists {P D : Nat} (hD : 0 < D) : ∃ r, Near P D r := by
  obtain ⟨m, _, h1, h2⟩ := least_of (fun r => P ≤ midN r * D) P (Nat.le_trans (mid_ge P) (Nat.le_mul_of_pos_right _ hD))
  by_cases e : P = midN m * D
  · by_cases ev : m % 2 = 0
    · refine ⟨m, .inr ⟨e, ev⟩, ?_⟩
      by_cases m0 : m = 0
      · exact .inl m0
      · exact .inr (.inl (by have := h2 (m - 1) (by omega); omega))
    · refine ⟨m + 1, .inl ?_, .inr (.inr ⟨e, by omega⟩)⟩
      rw [e]
      exact Nat.mul_lt_mul_of_pos_right (mid_mono (by omega)) hD
  · refine ⟨m, .inl (by omega), ?_⟩
    by_cases m0 : m = 0
    · exact .inl m0
    · exact .inr (.inl (by have := h2 (m - 1) (by omega); omega))

/-- The number that decimal digits denote. -/
def valL (l : List UInt8) : Nat := l.foldl (fun n c => n * 10 + (c.toNat - 48)) 0
theorem valL_snoc (l : List UInt8) (c : UInt8) : valL (l ++ [c]) = valL l * 10 + (c.toNat - 48) := by unfold valL; rw [List.foldl_append]; rfl
theorem isDg_le {c : UInt8} (h : isDg c = true) : 48 ≤ c.toNat ∧ c.toNat ≤ 57 := by
  unfold isDg at h; simpa using h
theorem snoc_cases (l : List UInt8) : l = [] ∨ ∃ t c, l = t ++ [c] := by
  rcases List.eq_nil_or_concat l with h | ⟨t, c, h⟩
  · exact .inl h
  · exact .inr ⟨t, c, by rw [h, List.concat_eq_append]⟩
theorem ten_pos (k : Nat) : 0 < 10 ^ k := Nat.pow_pos (by omega)
theorem valL_lt : ∀ (k : Nat) (l : List UInt8), l.length = k → l.all isDg = true → valL l < 10 ^ k
  | 0, l, hk, _ => by
    obtain rfl := List.length_eq_zero_iff.1 hk
    simp [valL]
  | k + 1, l, hk, hd => by
    rcases snoc_cases l with rfl | ⟨t, c, rfl⟩
    · simp at hk
    · rw [List.all_append, Bool.and_eq_true] at hd
      have h1 := valL_lt k t (by simpa using hk) hd.1
      have h2 := isDg_le (c := c) (by simpa using hd.2)
      rw [valL_snoc, Nat.pow_succ]
      omega
theorem decN_small {n : Nat} {c : UInt8} (h : n * 10 + (c.toNat - 48) < M384) : decN n c = n * 10 + (c.toNat - 48) := by
  unfold decN
  rw [Nat.mod_eq_of_lt (a := n * 10) (by omega), Nat.mod_eq_of_lt h]
theorem decF_snoc' (l : List UInt8) (c : UInt8) : decF (l ++ [c]) = decN (decF l) c := by unfold decF; rw [List.foldl_append]; rfl
theorem ten_lt_two (k : Nat) : 10 ^ k ≤ 2 ^ (4 * k) := by
  rw [Nat.pow_mul]
  exact Nat.pow_le_pow_left (by omega) k
theorem ten_lt_M {k : Nat} (h : k ≤ 96) : 10 ^ k ≤ M384 := Nat.le_trans (ten_lt_two k) (pow_le_M (by omega))
theorem decF_val : ∀ (k : Nat) (l : List UInt8), l.length = k → k ≤ 96 → l.all isDg = true → decF l = valL l
  | 0, l, hk, _, _ => by
    obtain rfl := List.length_eq_zero_iff.1 hk
    rfl
  | k + 1, l, hk, hb, hd => by
    have hv := valL_lt (k + 1) l hk hd
    rcases snoc_cases l with rfl | ⟨t, c, rfl⟩
    · simp at hk
    · have hd2 := hd
      rw [List.all_append, Bool.and_eq_true] at hd2
      rw [decF_snoc', decF_val k t (by simpa using hk) (by omega) hd2.1, valL_snoc]
      rw [valL_snoc] at hv
      exact decN_small (Nat.lt_of_lt_of_le hv (ten_lt_M hb))
/-- The first digit is not 0. -/
def Lead (l : List UInt8) : Prop := ∀ c t, l = c :: t → c ≠ 48
theorem valL_ge : ∀ (k : Nat) (l : List UInt8), l.length = k + 1 → l.all isDg = true → Lead l → 10 ^ k ≤ valL l
  | 0, l, hk, hd, hl => by
    match l, hk with
    | [c], _ =>
      have h1 := hl c [] rfl
      have h2 := isDg_le (c := c) (by simpa using hd)
      have h3 : c.toNat ≠ 48 := fun e => h1 (by apply UInt8.toNat_inj.1; rw [e]; rfl)
      simp [valL]; omega
  | k + 1, l, hk, hd, hl => by
    rcases snoc_cases l with rfl | ⟨t, c, rfl⟩
    · simp at hk
    · rw [List.all_append, Bool.and_eq_true] at hd
      have ht : t.length = k + 1 := by simpa using hk
      have h1 := valL_ge k t ht hd.1 (fun d u e => hl d (u ++ [c]) (by rw [e]; rfl))
      rw [valL_snoc, Nat.pow_succ]
      omega
end Go.Proofs.YtogfiekbikechaaGreatDoor

namespace Go.Proofs.YtogfiekbikechaaGreatDoor

theorem ten_two (k : Nat) : 10 ^ k ≤ 2 ^ (10 * (k / 3 + 1)) := by
  have h : 10 ^ (3 * (k / 3 + 1)) ≤ 2 ^ (10 * (k / 3 + 1)) := by
    rw [Nat.pow_mul, Nat.pow_mul]
    exact Nat.pow_le_pow_left (by decide) _
  exact Nat.le_trans (Nat.pow_le_pow_right (by omega) (by omega)) h
theorem tw_ten : tw 151 ≤ 10 ^ 46 := by unfold tw; decide
theorem ten_53 : tw 176 ≤ 10 ^ 53 := by unfold tw; decide
theorem tw_mono {a b : Nat} (h : a ≤ b) : tw a ≤ tw b := Nat.pow_le_pow_right (by omega) h
theorem tw_sum (a b : Nat) : tw a * tw b = tw (a + b) := (Nat.pow_add 2 a b).symm
theorem mid_top_lt {K : Nat} (h : K = 325) : midN 2533359615 < tw K := by
  unfold midN tw
  obtain ⟨E, hE⟩ : ∃ E, expoN 2533359615 = E := ⟨_, rfl⟩
  have hE2 : E = 300 := by rw [← hE]; exact expo_top
  rw [mant_top, hE, show K = 25 + E by omega, Nat.pow_add]
  exact Nat.mul_lt_mul_of_pos_right (by decide) (pow_pos2 _)
theorem num_near (n : Num) (hl : n.digits.length ≤ 60) (hd : n.digits.all isDg = true) (h0 : Lead n.digits) :
    ∃ r, Near (valL n.digits * 10 ^ n.scale.toNat * tw 151) (10 ^ (-n.scale).toNat) r ∧ numV n = resI n.neg r := by
  obtain ⟨neg, l, s⟩ := n
  simp only at hl hd h0 ⊢
  unfold numV
  simp only
  by_cases e : l = []
  · subst e
    refine ⟨0, ⟨.inl ?_, .inl rfl⟩, by rw [if_pos (.inl rfl)]; rfl⟩
    have : valL [] = 0 := rfl
    rw [this, Nat.zero_mul, Nat.zero_mul]
    exact Nat.mul_pos (by decide) (ten_pos _)
  obtain ⟨k, hk⟩ : ∃ k, l.length = k + 1 := ⟨l.length - 1, by have := List.length_pos_iff.2 e; omega⟩
  have v1 := valL_lt (k + 1) l hk hd
  have v2 := valL_ge k l hk hd h0
  have hdec := decF_val (k + 1) l hk (by omega) hd
  rw [hdec, hk]
  clear hdec
  generalize valL l = v at *
  by_cases c1 : ((k + 1 : Nat) : Int) + s ≤ -46
  · rw [if_pos (.inr c1)]
    refine ⟨0, ⟨.inl ?_, .inl rfl⟩, rfl⟩
    rw [show s.toNat = 0 by omega, Nat.pow_zero, Nat.mul_one]
    have a1 : v * tw 151 < 10 ^ (k + 1) * 10 ^ 46 := Nat.lt_of_lt_of_le (Nat.mul_lt_mul_of_pos_right v1 (tw_pos _)) (Nat.mul_le_mul_left _ tw_ten)
    rw [← Nat.pow_add] at a1
    have a2 : 10 ^ (k + 1 + 46) ≤ 10 ^ (-s).toNat := Nat.pow_le_pow_right (by omega) (by omega)
    have a3 : midN 0 = 1 := by decide
    rw [a3, Nat.one_mul]
    exact Nat.lt_of_lt_of_le a1 a2
  rw [if_neg (by simp [e]; omega)]
  by_cases c2 : 53 < ((k + 1 : Nat) : Int) + s
  · rw [if_pos c2]
    obtain ⟨r, hr⟩ := near_exists (P := v * 10 ^ s.toNat * tw 151) (ten_pos (-s).toNat)
    refine ⟨r, hr, ?_⟩
    rcases Nat.lt_or_ge 2533359615 r with g | g
    · rw [resI_far g]
    · exfalso
      have b1 : 10 ^ 53 * 10 ^ (-s).toNat ≤ v * 10 ^ s.toNat := by
        have b2 : 10 ^ k * 10 ^ s.toNat ≤ v * 10 ^ s.toNat := Nat.mul_le_mul_right _ v2
        rw [← Nat.pow_add] at b2 ⊢
        exact Nat.le_trans (Nat.pow_le_pow_right (by omega) (by omega)) b2
      have b3 := Nat.mul_le_mul_right (tw 151) b1
      obtain ⟨K, hK⟩ : ∃ K, K = 325 := ⟨_, rfl⟩
      have b4 : tw K * 10 ^ (-s).toNat ≤ 10 ^ 53 * 10 ^ (-s).toNat * tw 151 := by
        rw [Nat.mul_right_comm]
        refine Nat.mul_le_mul_right _ ?_
        refine Nat.le_trans ?_ (Nat.mul_le_mul_right _ ten_53)
        rw [tw_sum]
        exact tw_mono (by omega)
      have b5 : midN r * 10 ^ (-s).toNat < tw K * 10 ^ (-s).toNat := Nat.mul_lt_mul_of_pos_right (Nat.lt_of_le_of_lt (mid_mono_le g) (mid_top_lt hK)) (ten_pos _)
      rcases hr.1 with h | h
      · omega
      · omega
  rw [if_neg c2]
  have a0 : 0 < v := Nat.lt_of_lt_of_le (ten_pos k) v2
  by_cases hs : 0 ≤ s
  · simp only [if_pos hs]
    have m1 : v * 10 ^ s.toNat < 10 ^ 53 := by
      have := Nat.mul_lt_mul_of_pos_right v1 (ten_pos s.toNat)
      rw [← Nat.pow_add] at this
      exact Nat.lt_of_lt_of_le this (Nat.pow_le_pow_right (by omega) (by omega))
    have m2 : v * 10 ^ s.toNat < 2 ^ 180 := Nat.lt_of_lt_of_le m1 (ten_two 53)
    rw [Nat.mod_eq_of_lt (Nat.lt_of_lt_of_le m2 (pow_le_M (by omega)))]
    rw [show (-s).toNat = 0 by omega, Nat.pow_zero]
    exact ratio_near neg (Nat.mul_pos a0 (ten_pos _)) (by omega) (Nat.le_trans (nb_of_lt m2) (by omega)) (Nat.le_trans (nb_of_lt (show 1 < 2 ^ 1 by decide)) (by omega))
  · simp only [if_neg hs]
    obtain ⟨K, k1, k2⟩ : ∃ K, 361 ≤ K ∧ K ≤ 380 := ⟨361, by omega, by omega⟩
    have m2 : 10 ^ (-s).toNat < 2 ^ K := Nat.lt_of_le_of_lt (ten_two _) (Nat.pow_lt_pow_right (by omega) (by omega))
    have m3 : v < 2 ^ 210 := Nat.lt_of_lt_of_le v1 (Nat.le_trans (Nat.pow_le_pow_right (by omega) (show k + 1 ≤ 60 by omega)) (ten_two 60))
    rw [Nat.mod_eq_of_lt (Nat.lt_of_lt_of_le m2 (pow_le_M (by omega)))]
    rw [show s.toNat = 0 by omega, Nat.pow_zero, Nat.mul_one]
    exact ratio_near neg a0 (ten_pos _) (Nat.le_trans (nb_of_lt m3) (by omega)) (Nat.le_trans (nb_of_lt m2) (by omega))
end Go.Proofs.YtogfiekbikechaaGreatDoor

namespace Go.Proofs.YtogfiekbikechaaGreatDoor

theorem up_spec : ∀ (f : Nat) (d : Dec), d.num < d.size * 10 ^ f → d.size * 10 ^ f < M384 → 0 < d.size →
    ∃ u, u ≤ f ∧ decUp f d = { d with size := d.size * 10 ^ u, point := d.point + u } ∧ upDone f d = true ∧ d.num < d.size * 10 ^ u ∧ (u = 0 ∨ d.size * 10 ^ (u - 1) ≤ d.num)
  | 0, d, h1, _, _ => by
    refine ⟨0, Nat.le_refl _, by simp [decUp], by simpa [upDone] using h1, by simpa using h1, .inl rfl⟩
  | f + 1, d, h1, h2, h3 => by
    by_cases c : d.size ≤ d.num
    · have hm : d.size * 10 % M384 = d.size * 10 := by
        refine Nat.mod_eq_of_lt (Nat.lt_of_le_of_lt ?_ h2)
        rw [Nat.pow_succ, Nat.mul_comm (10 ^ f) 10, ← Nat.mul_assoc]
        exact Nat.le_mul_of_pos_right _ (ten_pos f)
      have e : ∀ k, d.size * 10 * 10 ^ k = d.size * 10 ^ (k + 1) := fun k => by rw [Nat.pow_succ, Nat.mul_comm (10 ^ k) 10, Nat.mul_assoc]
      obtain ⟨u, a1, a2, a3, a4, a5⟩ := up_spec f { d with size := d.size * 10, point := d.point + 1 } (by simp only; rw [e]; exact h1) (by simp only; rw [e]; exact h2) (by simp only; omega)
      simp only at a2 a3 a4 a5
      refine ⟨u + 1, by omega, ?_, ?_, ?_, .inr ?_⟩
      · rw [decUp, if_pos c, hm, a2, e]
        simp only [Dec.mk.injEq, true_and]
        omega
      · rw [upDone, if_pos c]
        unfold upS
        rw [hm]
        exact a3
      · rw [← e]; exact a4
      · rw [Nat.add_sub_cancel]
        rcases a5 with rfl | a5
        · simpa using c
        · rcases u with _ | u
          · simpa using c
          · rw [← e]; simpa using a5
    · refine ⟨0, by omega, ?_, ?_, ?_, .inl rfl⟩
      · rw [decUp, if_neg c]; simp
      · rw [upDone, if_neg c]
      · simp; omega
theorem down_spec : ∀ (f : Nat) (d : Dec), d.size ≤ d.num * 10 ^ (f + 1) → d.size * 10 ≤ M384 → d.num < d.size → d.below ≤ d.num → d.above ≤ d.num →
    ∃ v, v ≤ f ∧ decDown f d = ⟨d.num * 10 ^ v, d.below * 10 ^ v, d.above * 10 ^ v, d.size, d.point - v⟩ ∧ downDone f d = true ∧ d.num * 10 ^ v < d.size ∧ d.size ≤ d.num * 10 ^ v * 10
  | 0, d, h1, h2, h3, _, _ => by
    have hm : d.num * 10 % M384 = d.num * 10 := Nat.mod_eq_of_lt (by omega)
    refine ⟨0, Nat.le_refl _, by simp [decDown], ?_, by simpa using h3, by simpa using h1⟩
    unfold downDone
    rw [hm]
    simpa using h1
  | f + 1, d, h1, h2, h3, h4, h5 => by
    have hm : d.num * 10 % M384 = d.num * 10 := Nat.mod_eq_of_lt (by omega)
    have hb : d.below * 10 % M384 = d.below * 10 := Nat.mod_eq_of_lt (by omega)
    have ha : d.above * 10 % M384 = d.above * 10 := Nat.mod_eq_of_lt (by omega)
    by_cases c : d.num * 10 < d.size
    · have e : ∀ n k, n * 10 * 10 ^ k = n * 10 ^ (k + 1) := fun n k => by rw [Nat.pow_succ, Nat.mul_comm (10 ^ k) 10, Nat.mul_assoc]
      obtain ⟨v, a1, a2, a3, a4, a5⟩ := down_spec f ⟨d.num * 10, d.below * 10, d.above * 10, d.size, d.point - 1⟩ (by simp only; rw [e]; exact h1) h2 c (by simp only; omega) (by simp only; omega)
      simp only at a2 a3 a4 a5
      rw [e] at a4 a5
      refine ⟨v + 1, by omega, ?_, ?_, a4, a5⟩
      · rw [decDown, hm, if_pos c, hb, ha, a2, e, e, e]
        simp only [Dec.mk.injEq, true_and]
        omega
      · rw [downDone, hm, if_pos c]
        unfold downS
        rw [hm, hb, ha]
        exact a3
    · refine ⟨0, by omega, ?_, ?_, by simpa using h3, by simp; omega⟩
      · rw [decDown, hm, if_neg c]; simp
      · rw [downDone, hm, if_neg c]
end Go.Proofs.YtogfiekbikechaaGreatDoor

namespace Go.Proofs.YtogfiekbikechaaGreatDoor

theorem tw_succ4 (k : Nat) : tw (k + 4) = 16 * tw k := by unfold tw; rw [Nat.pow_add, Nat.mul_comm]
theorem tw_le_M {k : Nat} (h : k ≤ 384) : tw k ≤ M384 := pow_le_M h
/-- The loops, for any fraction that is small enough. -/
theorem dec_loops {n b a s : Nat} (hn0 : 0 < n) (hn : n < tw 176) (hs0 : 0 < s) (hs : s ≤ tw 152) (hb : b ≤ n) (ha : a ≤ n) :
    ∃ u v : Nat, u ≤ 60 ∧ v ≤ 60 ∧ decUp 60 ⟨n, b, a, s, 0⟩ = ⟨n, b, a, s * 10 ^ u, u⟩ ∧ decDown 60 ⟨n, b, a, s * 10 ^ u, u⟩ = ⟨n * 10 ^ v, b * 10 ^ v, a * 10 ^ v, s * 10 ^ u, (u : Int) - v⟩ ∧
      upDone 60 ⟨n, b, a, s, 0⟩ = true ∧ downDone 60 ⟨n, b, a, s * 10 ^ u, u⟩ = true ∧ n * 10 ^ v < s * 10 ^ u ∧ s * 10 ^ u ≤ n * 10 ^ v * 10 ∧ s * 10 ^ u < tw 180 := by
  have t53 : n < 10 ^ 53 := Nat.lt_of_lt_of_le hn ten_53
  have p1 : n < s * 10 ^ 60 := by
    refine Nat.lt_of_lt_of_le t53 (Nat.le_trans (Nat.pow_le_pow_right (by omega) (show 53 ≤ 60 by omega)) ?_)
    exact Nat.le_mul_of_pos_left _ hs0
  have p2 : s * 10 ^ 60 < M384 := by
    obtain ⟨K, k1, k2⟩ : ∃ K, 363 ≤ K ∧ K ≤ 384 := ⟨363, by omega, by omega⟩
    have ht := ten_two 60
    generalize hJ : 10 * (60 / 3 + 1) = J at ht
    have hJ2 : J = 210 := hJ.symm
    have h1 : s * 10 ^ 60 ≤ tw 152 * tw J := Nat.mul_le_mul hs ht
    rw [tw_sum] at h1
    have h2 : tw (152 + J) < tw K := Nat.pow_lt_pow_right (by omega) (by omega)
    exact Nat.lt_of_le_of_lt h1 (Nat.lt_of_lt_of_le h2 (tw_le_M k2))
  obtain ⟨u, u1, u2, u3, u4, u5⟩ := up_spec 60 ⟨n, b, a, s, 0⟩ p1 p2 hs0
  simp only [Int.zero_add] at u2 u3 u4 u5
  have hS : s * 10 ^ u < tw 180 := by
    have e : tw 180 = 16 * tw 176 := tw_succ4 176
    rcases u5 with rfl | u5
    · rw [Nat.pow_zero, Nat.mul_one]
      exact Nat.lt_of_le_of_lt hs (Nat.pow_lt_pow_right (by omega) (by omega))
    · rcases u with _ | u
      · rw [Nat.pow_zero, Nat.mul_one]
        exact Nat.lt_of_le_of_lt hs (Nat.pow_lt_pow_right (by omega) (by omega))
      · rw [Nat.pow_succ, ← Nat.mul_assoc]
        rw [Nat.add_sub_cancel] at u5
        omega
  have q1 : s * 10 ^ u ≤ n * 10 ^ (60 + 1) := by
    have e : tw 180 = 16 * tw 176 := tw_succ4 176
    have e2 : 16 * 10 ^ 53 ≤ 10 ^ (60 + 1) := by decide
    have e3 : 10 ^ (60 + 1) ≤ n * 10 ^ (60 + 1) := Nat.le_mul_of_pos_left _ hn0
    have e4 := ten_53
    omega
  have q2 : s * 10 ^ u * 10 ≤ M384 := by
    have e : tw 184 = 16 * tw 180 := tw_succ4 180
    have := tw_le_M (k := 184) (by omega)
    omega
  obtain ⟨v, v1, v2, v3, v4, v5⟩ := down_spec 60 ⟨n, b, a, s * 10 ^ u, u⟩ q1 q2 u4 hb ha
  exact ⟨u, v, u1, v1, u2, v2, u3, v3, v4, v5, hS⟩
/-- The number that b is: twice the distance to the mark below, in quarters of the last place. -/
def belowB (M : Nat) (x : Int) : Nat := if M = 8388608 ∧ -150 < x then 1 else 2
theorem belowB_le (M : Nat) (x : Int) : 1 ≤ belowB M x ∧ belowB M x ≤ 2 := by unfold belowB; split <;> omega
/-- What Print begins with: n / s is the real, b / s and a / s the distances to the marks. -/
theorem dec_start {m x : Int} (h : Vd m x) (m0 : m ≠ 0) : ∃ n b a s, decStart m.natAbs x = ⟨n, b, a, s, 0⟩ ∧ 0 < n ∧ n < tw 176 ∧ 0 < s ∧ s ≤ tw 152 ∧ b ≤ n ∧ a ≤ n ∧ 0 < b ∧
    n * tw 150 = s * (m.natAbs * 2 ^ (x + 150).toNat) ∧ b * tw 152 = s * (belowB m.natAbs x * 2 ^ (x + 150).toNat) ∧ a * tw 152 = s * (2 * 2 ^ (x + 150).toNat) := by
  have h1 := h.1
  have h2 := h.2.1
  have h3 := h.2.2.1
  have hb := belowB_le m.natAbs x
  have e0 : decStart m.natAbs x = if 0 ≤ x then ⟨shN (4 * m.natAbs) x.toNat, shN (belowB m.natAbs x) x.toNat, shN 2 x.toNat, 4, 0⟩ else ⟨4 * m.natAbs, belowB m.natAbs x, 2, shN 4 (-x).toNat, 0⟩ := rfl
  rw [e0]
  obtain ⟨M, hM⟩ : ∃ M, m.natAbs = M := ⟨_, rfl⟩
  rw [hM] at h1 hb ⊢
  have hM0 : 0 < M := by omega
  generalize belowB M x = B at *
  clear hM e0
  by_cases hx : 0 ≤ x
  · rw [if_pos hx]
    obtain ⟨E, hE⟩ : ∃ E, x.toNat = E := ⟨_, rfl⟩
    rw [hE, show (x + 150).toNat = E + 150 by omega]
    have s1 : ∀ c, c ≤ 4 * M → c * 2 ^ E < tw 176 := fun c hc => by
      refine Nat.lt_of_lt_of_le (Nat.mul_lt_mul_of_pos_right (show c < 2 ^ 26 by omega) (pow_pos2 E)) ?_
      rw [← Nat.pow_add]
      exact Nat.pow_le_pow_right (by omega) (by omega)
    have s2 : ∀ c, c ≤ 4 * M → shN c E = c * 2 ^ E := fun c hc => Nat.mod_eq_of_lt (Nat.lt_of_lt_of_le (s1 c hc) (tw_le_M (by omega)))
    rw [s2 _ (Nat.le_refl _), s2 B (by omega), s2 2 (by omega)]
    have e1 : (2 : Nat) ^ (E + 150) = 2 ^ E * tw 150 := Nat.pow_add ..
    have e2 : tw 152 = tw 150 * 4 := by unfold tw; rw [show (152 : Nat) = 150 + 2 from rfl, Nat.pow_add]
    refine ⟨_, _, _, _, rfl, Nat.mul_pos (by omega) (pow_pos2 E), s1 _ (Nat.le_refl _), by omega, ?_, Nat.mul_le_mul_right _ (by omega), Nat.mul_le_mul_right _ (by omega), Nat.mul_pos (by omega) (pow_pos2 E), ?_, ?_, ?_⟩
    · have := tw_pos 150; rw [e2]; omega
    · rw [e1]; ac_rfl
    · rw [e1, e2]; ac_rfl
    · rw [e1, e2]; ac_rfl
  · rw [if_neg hx]
    obtain ⟨E, hE⟩ : ∃ E, (-x).toNat = E := ⟨_, rfl⟩
    obtain ⟨X, hX⟩ : ∃ X, (x + 150).toNat = X := ⟨_, rfl⟩
    rw [hE, hX]
    have eX : E + X = 150 := by omega
    have s1 : 4 * 2 ^ E ≤ tw 152 := by
      rw [show (4 : Nat) = 2 ^ 2 from rfl, ← Nat.pow_add]
      exact Nat.pow_le_pow_right (by omega) (by omega)
    have s2 : shN 4 E = 4 * 2 ^ E := Nat.mod_eq_of_lt (Nat.lt_of_le_of_lt s1 (Nat.lt_of_lt_of_le (Nat.pow_lt_pow_right (a := 2) (by omega) (show 152 < 153 by omega)) (pow_le_M (by omega))))
    rw [s2]
    have e1 : tw 150 = 2 ^ E * 2 ^ X := by rw [← Nat.pow_add, eX]; rfl
    have e2 : tw 152 = 4 * (2 ^ E * 2 ^ X) := by rw [← e1]; unfold tw; rw [show (152 : Nat) = 2 + 150 from rfl, Nat.pow_add]
    refine ⟨_, _, _, _, rfl, by omega, ?_, Nat.mul_pos (by omega) (pow_pos2 E), s1, by omega, by omega, by omega, ?_, ?_, ?_⟩
    · exact Nat.lt_of_lt_of_le (show 4 * M < 2 ^ 26 by omega) (Nat.pow_le_pow_right (by omega) (by omega))
    · rw [e1]; ac_rfl
    · rw [e2]; ac_rfl
    · rw [e2]; ac_rfl
end Go.Proofs.YtogfiekbikechaaGreatDoor

namespace Go.Proofs.YtogfiekbikechaaGreatDoor

/-- The number that digits are (a last one may be 10). -/
def valD (l : List Nat) : Nat := l.foldl (fun n d => n * 10 + d) 0
theorem valD_from (l : List Nat) : ∀ a, l.foldl (fun n d => n * 10 + d) a = a * 10 ^ l.length + valD l := by
  induction l with
  | nil => intro a; simp [valD]
  | cons d l ih =>
    intro a
    unfold valD
    rw [List.foldl_cons, List.foldl_cons, ih, ih (0 * 10 + d), List.length_cons, Nat.pow_succ]
    rw [Nat.add_mul, Nat.zero_mul, Nat.zero_add, Nat.mul_assoc, Nat.mul_comm 10, Nat.add_assoc]
theorem valD_cons (d : Nat) (l : List Nat) : valD (d :: l) = d * 10 ^ l.length + valD l := by
  show l.foldl _ (0 * 10 + d) = _
  rw [valD_from, Nat.zero_mul, Nat.zero_add]
theorem valD_snoc (l : List Nat) (d : Nat) : valD (l ++ [d]) = valD l * 10 + d := by unfold valD; rw [List.foldl_append]; rfl
/-- N lies within the marks of V places of size S. -/
def InI (even : Bool) (N V S B A : Nat) : Prop := (N < V * S + B ∨ N = V * S + B ∧ even = true) ∧ (V * S < N + A ∨ V * S = N + A ∧ even = true)
/-- N lies above the mark of V. -/
def OutI (even : Bool) (N V S B : Nat) : Prop := V * S + B < N ∨ V * S + B = N ∧ even = false
theorem scale_eq (d S r q V : Nat) : (d * S + r) * q = d * q * S + r * q ∧ (d * q + V) * S = d * q * S + V * S := by
  constructor
  · rw [Nat.add_mul, Nat.mul_right_comm]
  · rw [Nat.add_mul]
theorem InI.up {even : Bool} {r V S B A q d : Nat} (h : InI even (r * q) V S B A) : InI even ((d * S + r) * q) (d * q + V) S B A := by
  obtain ⟨e1, e2⟩ := scale_eq d S r q V
  unfold InI at *
  rw [e1, e2]
  obtain ⟨h1, h2⟩ := h
  refine ⟨?_, ?_⟩
  · rcases h1 with h1 | ⟨h1, h3⟩
    · exact .inl (by omega)
    · exact .inr ⟨by omega, h3⟩
  · rcases h2 with h2 | ⟨h2, h3⟩
    · exact .inl (by omega)
    · exact .inr ⟨by omega, h3⟩
theorem OutI.up {even : Bool} {r V S B q d : Nat} (h : OutI even (r * q) V S B) : OutI even ((d * S + r) * q) (d * q + V) S B := by
  obtain ⟨e1, e2⟩ := scale_eq d S r q V
  unfold OutI at *
  rw [e1, e2]
  rcases h with h | ⟨h, h3⟩
  · exact .inl (by omega)
  · exact .inr ⟨by omega, h3⟩
theorem dnB_iff {even : Bool} {r bl : Nat} : dnB even r bl = true ↔ (r < bl ∨ r = bl ∧ even = true) := by unfold dnB; simp
theorem hiB_iff {even : Bool} {ra S : Nat} : hiB even ra S = true ↔ (S < ra ∨ ra = S ∧ even = true) := by unfold hiB; simp
theorem inc_hi {even : Bool} {S d r bl ab : Nat} (h : incB even S d r bl ab = true) (hm : (r + ab) % M384 = r + ab) : S < r + ab ∨ r + ab = S ∧ even = true := by
  unfold incB at h
  rw [hm] at h
  split at h
  · rename_i c
    rw [Bool.and_eq_true] at c
    exact hiB_iff.1 c.2
  · exact hiB_iff.1 h
theorem inc_stop {even : Bool} {S d r bl ab : Nat} (h : stopB even S d r bl ab = false) (hm : (r + ab) % M384 = r + ab) : (bl < r ∨ bl = r ∧ even = false) ∧ (r + ab < S ∨ r + ab = S ∧ even = false) := by
  unfold stopB at h
  rw [Bool.or_eq_false_iff] at h
  obtain ⟨h1, h2⟩ := h
  unfold incB at h2
  rw [h1, Bool.false_and, hm] at h2
  have n1 : ¬ (r < bl ∨ r = bl ∧ even = true) := fun c => by rw [dnB_iff.2 c] at h1; cases h1
  have n2 : ¬ (S < r + ab ∨ r + ab = S ∧ even = true) := fun c => by simp [hiB_iff.2 c] at h2
  cases even
  · simp at n1 n2 ⊢; omega
  · simp at n1 n2 ⊢; omega
theorem stop_in {even : Bool} {S d r bl ab : Nat} (h : stopB even S d r bl ab = true) (hm : (r + ab) % M384 = r + ab) (hr : r < S) (ha : 0 < ab) :
    (incB even S d r bl ab = true → InI even (d * S + r) (d + 1) S bl ab) ∧ (incB even S d r bl ab = false → InI even (d * S + r) d S bl ab ∧ (r < bl ∨ r = bl ∧ even = true)) := by
  constructor
  · intro hi
    have := inc_hi hi hm
    unfold InI
    rw [Nat.add_mul, Nat.one_mul]
    refine ⟨.inl (by omega), ?_⟩
    rcases this with c | ⟨c, e⟩
    · exact .inl (by omega)
    · exact .inr ⟨by omega, e⟩
  · intro hi
    unfold stopB at h
    rw [hi, Bool.or_false] at h
    have := dnB_iff.1 h
    refine ⟨?_, this⟩
    unfold InI
    refine ⟨?_, .inl (by omega)⟩
    rcases this with c | ⟨c, e⟩
    · exact .inl (by omega)
    · exact .inr ⟨by omega, e⟩
/-- What the digits are. -/
structure Short (even : Bool) (S f num below above : Nat) (t : List Nat) (g : Nat) : Prop where
  eq : shortL even S f num below above = t ++ [g]
  done : shortDone even S f num below above = true
  nine : ∀ d, d ∈ t → d ≤ 9
  one : 1 ≤ g
  ten : g ≤ 9 ∨ g = 10 ∧ t = [] ∧ ¬ (num + above < S ∨ num + above = S ∧ even = false)
  inI : InI even (num * 10 ^ (t.length + 1)) (valD (t ++ [g])) S (below * 10 ^ (t.length + 1)) (above * 10 ^ (t.length + 1))
  out : OutI even (num * 10 ^ (t.length + 1)) (valD t * 10) S (below * 10 ^ (t.length + 1))
theorem short_setup {S num below above : Nat} (hS : 16 * S ≤ M384) (hS0 : 0 < S) (h1 : num < S) (h2 : below ≤ S) (h3 : above ≤ S) :
    num * 10 % M384 = num * 10 ∧ below * 10 % M384 = below * 10 ∧ above * 10 % M384 = above * 10 ∧ num * 10 = (num * 10 / S) * S + num * 10 % S ∧ num * 10 % S < S ∧ num * 10 / S ≤ 9 ∧ (num * 10 % S + above * 10) % M384 = num * 10 % S + above * 10 := by
  have d1 := Nat.div_add_mod (num * 10) S
  have d2 := Nat.mod_lt (num * 10) hS0
  have d3 : num * 10 / S ≤ 9 := by
    have : num * 10 / S < 10 := Nat.div_lt_of_lt_mul (by omega)
    omega
  rw [Nat.mul_comm S] at d1
  refine ⟨Nat.mod_eq_of_lt (by omega), Nat.mod_eq_of_lt (by omega), Nat.mod_eq_of_lt (by omega), d1.symm, d2, d3, Nat.mod_eq_of_lt ?_⟩
  generalize num * 10 % S = r at *
  omega
theorem short_halt {even : Bool} {S : Nat} (hS : 16 * S ≤ M384) (hS0 : 0 < S) (f num below above : Nat) (h1 : num < S) (h2 : below ≤ S) (h3 : above ≤ S) (h4 : 0 < above) (h5 : below < num ∨ below = num ∧ even = false)
    (hst : stopB even S (num * 10 / S) (num * 10 % S) (below * 10) (above * 10) = true) : Short even S (f + 1) num below above [] (digB even S (num * 10 / S) (num * 10 % S) (below * 10) (above * 10)) := by
  obtain ⟨m1, m2, m3, e, r1, d1, m4⟩ := short_setup hS hS0 h1 h2 h3
  obtain ⟨i1, i2⟩ := stop_in hst m4 r1 (by omega)
  have q1 : shortL even S (f + 1) num below above = [] ++ [digB even S (num * 10 / S) (num * 10 % S) (below * 10) (above * 10)] := by
    rw [shortL_succ]
    simp only [m1, m2, m3]
    rw [if_pos hst]
    rfl
  have q2 : shortDone even S (f + 1) num below above = true := by
    unfold shortDone
    rw [m1, m2, m3, hst]
    rfl
  rw [← e] at i1 i2
  generalize hd : num * 10 / S = d at *
  generalize hr : num * 10 % S = r at *
  have e1 : num * 10 ^ (([] : List Nat).length + 1) = num * 10 := rfl
  have e2 : below * 10 ^ (([] : List Nat).length + 1) = below * 10 := rfl
  have e3 : above * 10 ^ (([] : List Nat).length + 1) = above * 10 := rfl
  have e4 : ∀ g, valD ([] ++ [g]) = g := fun g => by simp [valD]
  have e5 : valD [] * 10 = 0 := rfl
  have ou : OutI even (num * 10) 0 S (below * 10) := by
    unfold OutI
    rw [Nat.zero_mul, Nat.zero_add]
    rcases h5 with c | ⟨c, c2⟩
    · exact .inl (by omega)
    · exact .inr ⟨by omega, c2⟩
  cases hi : incB even S d r (below * 10) (above * 10) with
  | true =>
    have hg : digB even S d r (below * 10) (above * 10) = d + 1 := by unfold digB; rw [hi]; rfl
    rw [hg] at q1 ⊢
    refine ⟨q1, q2, fun c hc => (by cases hc), by omega, ?_, by rw [e1, e2, e3, e4]; exact i1 hi, by rw [e1, e2, e5]; exact ou⟩
    by_cases d9 : d ≤ 8
    · exact .inl (by omega)
    · have hd9 : d = 9 := by omega
      refine .inr ⟨by omega, rfl, ?_⟩
      have := inc_hi hi m4
      rw [hd9] at e
      intro c
      rcases this with c1 | ⟨c1, c2⟩
      · rcases c with c | ⟨c, _⟩
        · omega
        · omega
      · rcases c with c | ⟨_, c3⟩
        · omega
        · rw [c2] at c3; cases c3
  | false =>
    have hg : digB even S d r (below * 10) (above * 10) = d := by unfold digB; rw [hi]; rfl
    rw [hg] at q1 ⊢
    obtain ⟨j1, j2⟩ := i2 hi
    refine ⟨q1, q2, fun c hc => (by cases hc), ?_, .inl d1, by rw [e1, e2, e3, e4]; exact j1, by rw [e1, e2, e5]; exact ou⟩
    rcases Nat.eq_zero_or_pos d with d0 | d0
    · exfalso
      rw [d0, Nat.zero_mul, Nat.zero_add] at e
      rcases j2 with c | ⟨c, c2⟩
      · omega
      · rcases h5 with c3 | ⟨_, c3⟩
        · omega
        · rw [c2] at c3; cases c3
    · exact d0
theorem short_next {even : Bool} {S : Nat} (hS : 16 * S ≤ M384) (hS0 : 0 < S) (f num below above : Nat) (h1 : num < S) (h2 : below ≤ S) (h3 : above ≤ S)
    (hst : stopB even S (num * 10 / S) (num * 10 % S) (below * 10) (above * 10) = false) {t : List Nat} {g : Nat} (ih : Short even S f (num * 10 % S) (below * 10) (above * 10) t g) : Short even S (f + 1) num below above (num * 10 / S :: t) g := by
  obtain ⟨m1, m2, m3, e, r1, d1, m4⟩ := short_setup hS hS0 h1 h2 h3
  obtain ⟨_, n2⟩ := inc_stop hst m4
  have hg := digB_go hst
  have q1 : shortL even S (f + 1) num below above = (num * 10 / S :: t) ++ [g] := by
    rw [shortL_succ]
    simp only [m1, m2, m3]
    rw [if_neg (by rw [hst]; decide), hg, ih.eq]
    rfl
  have q2 : shortDone even S (f + 1) num below above = true := by
    unfold shortDone
    rw [m1, m2, m3, hst, ih.done]
    rfl
  have hI := ih.inI
  have hO := ih.out
  have h9 := ih.nine
  have ht := ih.ten
  have h0 := ih.one
  clear ih hg hst m1 m2 m3
  generalize num * 10 / S = d at *
  generalize num * 10 % S = r at *
  have s1 : ∀ c, c * 10 ^ ((d :: t).length + 1) = c * 10 * 10 ^ (t.length + 1) := fun c => by
    rw [List.length_cons, Nat.pow_succ 10 (t.length + 1), Nat.mul_comm (10 ^ (t.length + 1)) 10, Nat.mul_assoc]
  have s2 : valD ((d :: t) ++ [g]) = d * 10 ^ (t.length + 1) + valD (t ++ [g]) := by
    rw [List.cons_append, valD_cons, List.length_append]; rfl
  have s3 : valD (d :: t) * 10 = d * 10 ^ (t.length + 1) + valD t * 10 := by
    rw [valD_cons, Nat.add_mul, Nat.pow_succ, Nat.mul_assoc]
  refine ⟨q1, q2, fun c hc => ?_, h0, ?_, ?_, ?_⟩
  · rcases List.mem_cons.1 hc with rfl | hc
    · exact d1
    · exact h9 c hc
  · rcases ht with c | ⟨_, _, c⟩
    · exact .inl c
    · exact absurd n2 c
  · rw [s1, s1, s1, s2, e]
    exact hI.up
  · rw [s1, s1, s3, e]
    exact hO.up
theorem short_spec {even : Bool} {S : Nat} (hS : 16 * S ≤ M384) (hS0 : 0 < S) : ∀ (f num below above : Nat), num < S → below ≤ S → above ≤ S → 0 < above → (below < num ∨ below = num ∧ even = false) → S ≤ below * 10 ^ (f + 1) →
    ∃ t g, Short even S (f + 1) num below above t g := by
  intro f
  induction f with
  | zero =>
    intro num below above h1 h2 h3 h4 h5 h6
    cases hst : stopB even S (num * 10 / S) (num * 10 % S) (below * 10) (above * 10) with
    | true => exact ⟨_, _, short_halt hS hS0 0 num below above h1 h2 h3 h4 h5 hst⟩
    | false =>
      exfalso
      obtain ⟨_, _, _, _, r1, _, m4⟩ := short_setup hS hS0 h1 h2 h3
      have := (inc_stop hst m4).1
      simp at h6
      omega
  | succ f ih =>
    intro num below above h1 h2 h3 h4 h5 h6
    cases hst : stopB even S (num * 10 / S) (num * 10 % S) (below * 10) (above * 10) with
    | true => exact ⟨_, _, short_halt hS hS0 (f + 1) num below above h1 h2 h3 h4 h5 hst⟩
    | false =>
      obtain ⟨_, _, _, _, r1, _, m4⟩ := short_setup hS hS0 h1 h2 h3
      obtain ⟨n1, n2⟩ := inc_stop hst m4
      have e : below * 10 * 10 ^ (f + 1) = below * 10 ^ (f + 1 + 1) := by rw [Nat.pow_succ 10 (f + 1), Nat.mul_comm (10 ^ (f + 1)) 10, Nat.mul_assoc]
      obtain ⟨t, g, h⟩ := ih (num * 10 % S) (below * 10) (above * 10) r1 (by omega) (by omega) (by omega) n1 (by rw [e]; exact h6)
      exact ⟨_, _, short_next hS hS0 (f + 1) num below above h1 h2 h3 hst h⟩
/-- Not more digits than tell the marks apart. -/
theorem short_len {even : Bool} {S : Nat} (hS : 16 * S ≤ M384) (hS0 : 0 < S) : ∀ (f j num below above : Nat), num < S → below ≤ S → above ≤ S → S < (below + above) * 10 ^ (j + 1) → (shortL even S f num below above).length ≤ j + 1
  | 0, j, num, below, above, _, _, _, _ => by rw [shortL]; simp
  | f + 1, j, num, below, above, h1, h2, h3, h4 => by
    obtain ⟨m1, m2, m3, _, r1, _, m4⟩ := short_setup hS hS0 h1 h2 h3
    rw [shortL_succ]
    simp only [m1, m2, m3]
    cases hst : stopB even S (num * 10 / S) (num * 10 % S) (below * 10) (above * 10) with
    | true => rw [if_pos rfl]; simp
    | false =>
      obtain ⟨n1, n2⟩ := inc_stop hst m4
      rw [if_neg (by decide)]
      rcases j with _ | j
      · exfalso; simp at h4; omega
      · rw [List.length_cons]
        have e : (below * 10 + above * 10) * 10 ^ (j + 1) = (below + above) * 10 ^ (j + 1 + 1) := by
          rw [← Nat.add_mul, Nat.pow_succ 10 (j + 1), Nat.mul_comm (10 ^ (j + 1)) 10, Nat.mul_assoc]
        have := short_len (even := even) hS hS0 f j (num * 10 % S) (below * 10) (above * 10) r1 (by omega) (by omega) (by rw [e]; exact h4)
        omega
end Go.Proofs.YtogfiekbikechaaGreatDoor

namespace Go.Proofs.YtogfiekbikechaaGreatDoor

theorem idx_pos {m x : Int} (_h : Vd m x) (m0 : m ≠ 0) : 0 < idx m x := by unfold idx; rw [if_neg m0]; omega
theorem mid_self {m x : Int} (h : Vd m x) (m0 : m ≠ 0) : midN (idx m x) = (2 * m.natAbs + 1) * 2 ^ (x + 150).toNat := by
  obtain ⟨h1, h2⟩ := idx_parts h m0
  unfold midN
  rw [h1, show expoN (idx m x) = (x + 150).toNat by omega]
theorem mid_below {m x : Int} (h : Vd m x) (m0 : m ≠ 0) : 2 * midN (idx m x - 1) + belowB m.natAbs x * 2 ^ (x + 150).toNat = 4 * m.natAbs * 2 ^ (x + 150).toNat := by
  obtain ⟨h1, h2⟩ := idx_parts h m0
  have ho := idx_ord h
  have hp := idx_pos h m0
  obtain ⟨r, hr⟩ : ∃ r, idx m x = r + 1 := ⟨idx m x - 1, by omega⟩
  rw [hr] at h1 h2 ho ⊢
  rw [Nat.add_sub_cancel, mid_two, ho]
  have hs := ord_succ r
  rw [ho] at hs
  have hx := h.2.1
  have e4 : 4 * m.natAbs * 2 ^ (x + 150).toNat = 4 * (m.natAbs * 2 ^ (x + 150).toNat) := Nat.mul_assoc ..
  rw [e4]
  rcases succ_cases r with ⟨c1, c2⟩ | ⟨c1, c2, c3⟩
  · have e1 : expoN r = (x + 150).toNat := by omega
    have e2 : belowB m.natAbs x = 2 := by
      unfold belowB
      rw [if_neg]
      intro ⟨d1, d2⟩
      have := @mant_ge r (by omega)
      omega
    rw [e1] at hs
    rw [e2]
    generalize m.natAbs * 2 ^ (x + 150).toNat = Z at *
    generalize 2 ^ (x + 150).toNat = Y at *
    omega
  · have e1 : expoN r + 1 = (x + 150).toNat := by omega
    have e2 : belowB m.natAbs x = 1 := by
      unfold belowB
      rw [if_pos ⟨by omega, by omega⟩]
    have e3 : 2 ^ (x + 150).toNat = 2 ^ expoN r * 2 := by rw [← e1, Nat.pow_succ]
    rw [e2, Nat.one_mul]
    generalize m.natAbs * 2 ^ (x + 150).toNat = Z at *
    generalize 2 ^ (x + 150).toNat = Y at *
    omega
/-- What lies within the marks is rounded to the real. -/
theorem in_near {n b a s M B2 X q w V r : Nat} {even : Bool} (hs : 0 < s) (r1 : 0 < r) (e1 : n * tw 150 = s * (M * 2 ^ X)) (e2 : b * tw 152 = s * (B2 * 2 ^ X)) (e3 : a * tw 152 = s * (2 * 2 ^ X)) (m1 : midN r = (2 * M + 1) * 2 ^ X) (m2 : 2 * midN (r - 1) + B2 * 2 ^ X = 4 * M * 2 ^ X)
    (he : even = true ↔ r % 2 = 0) :
    (InI even (n * q) V (s * w) (b * q) (a * q) → Near (V * w * tw 151) q r) ∧ (OutI even (n * q) V (s * w) (b * q) → ¬ Near (V * w * tw 151) q r) := by
  have t1 : tw 152 = tw 150 * 4 := by unfold tw; rw [show (152 : Nat) = 150 + 2 from rfl, Nat.pow_add]
  have t2 : tw 152 = tw 151 * 2 := by unfold tw; rw [← Nat.pow_succ]
  have tp := tw_pos 152
  -- all in units of s * tw 152
  have en : n * q * tw 152 = s * (4 * M * 2 ^ X * q) := by
    have : n * q * tw 152 = n * tw 150 * 4 * q := by rw [t1]; ac_rfl
    rw [this, e1]; ac_rfl
  have eb : b * q * tw 152 = s * (B2 * 2 ^ X * q) := by
    have : b * q * tw 152 = b * tw 152 * q := by ac_rfl
    rw [this, e2]; ac_rfl
  have ea : a * q * tw 152 = s * (2 * 2 ^ X * q) := by
    have : a * q * tw 152 = a * tw 152 * q := by ac_rfl
    rw [this, e3]; ac_rfl
  have eV : V * (s * w) * tw 152 = s * (V * w * tw 151 * 2) := by rw [t2]; ac_rfl
  have u1 : midN r * q * 2 = 4 * M * 2 ^ X * q + 2 * 2 ^ X * q := by
    rw [m1, ← Nat.add_mul, ← Nat.add_mul, show 4 * M + 2 = (2 * M + 1) * 2 by omega]; ac_rfl
  have u2 : midN (r - 1) * q * 2 + B2 * 2 ^ X * q = 4 * M * 2 ^ X * q := by
    rw [← m2, Nat.add_mul]; congr 1; ac_rfl
  generalize hP : V * w * tw 151 = P at *
  -- the three comparisons
  have cmp1 : (n * q < V * (s * w) + b * q ↔ midN (r - 1) * q < P) ∧ (n * q = V * (s * w) + b * q ↔ midN (r - 1) * q = P) ∧ (V * (s * w) + b * q < n * q ↔ P < midN (r - 1) * q) := by
    have k1 : ∀ p p' : Nat, (p * tw 152 < p' * tw 152 ↔ p < p') := fun p p' => Nat.mul_lt_mul_right tp
    have k2 : ∀ p p' : Nat, (s * p < s * p' ↔ p < p') := fun p p' => Nat.mul_lt_mul_left hs
    have k3 : ∀ p p' : Nat, (p * tw 152 = p' * tw 152 ↔ p = p') := fun p p' => Nat.mul_left_inj (by omega)
    have k4 : ∀ p p' : Nat, (s * p = s * p' ↔ p = p') := fun p p' => Nat.mul_right_inj (by omega)
    refine ⟨?_, ?_, ?_⟩
    · rw [← k1, Nat.add_mul, en, eb, eV, ← Nat.mul_add, k2]; omega
    · rw [← k3, Nat.add_mul, en, eb, eV, ← Nat.mul_add, k4]; omega
    · rw [← k1, Nat.add_mul, en, eb, eV, ← Nat.mul_add, k2]; omega
  have cmp2 : (V * (s * w) < n * q + a * q ↔ P < midN r * q) ∧ (V * (s * w) = n * q + a * q ↔ P = midN r * q) := by
    have k1 : ∀ p p' : Nat, (p * tw 152 < p' * tw 152 ↔ p < p') := fun p p' => Nat.mul_lt_mul_right tp
    have k2 : ∀ p p' : Nat, (s * p < s * p' ↔ p < p') := fun p p' => Nat.mul_lt_mul_left hs
    have k3 : ∀ p p' : Nat, (p * tw 152 = p' * tw 152 ↔ p = p') := fun p p' => Nat.mul_left_inj (by omega)
    have k4 : ∀ p p' : Nat, (s * p = s * p' ↔ p = p') := fun p p' => Nat.mul_right_inj (by omega)
    refine ⟨?_, ?_⟩
    · rw [← k1, Nat.add_mul, en, ea, eV, ← Nat.mul_add, k2]; omega
    · rw [← k3, Nat.add_mul, en, ea, eV, ← Nat.mul_add, k4]; omega
  constructor
  · rintro ⟨h1, h2⟩
    refine ⟨?_, .inr ?_⟩
    · rcases h2 with h2 | ⟨h2, h3⟩
      · exact .inl (cmp2.1.1 h2)
      · exact .inr ⟨cmp2.2.1 h2, he.1 h3⟩
    · rcases h1 with h1 | ⟨h1, h3⟩
      · exact .inl (cmp1.1.1 h1)
      · exact .inr ⟨(cmp1.2.1.1 h1).symm, he.1 h3⟩
  · intro ho hn
    rcases ho with h1 | ⟨h1, h3⟩
    · have := cmp1.2.2.1 h1
      rcases hn.2 with c | c | ⟨c, _⟩ <;> omega
    · have := cmp1.2.1.1 h1.symm
      rcases hn.2 with c | c | ⟨_, c⟩
      · omega
      · omega
      · have := he.2 c; rw [h3] at this; cases this
end Go.Proofs.YtogfiekbikechaaGreatDoor

namespace Go.Proofs.YtogfiekbikechaaGreatDoor

theorem itoaD_len12 (d : Nat) : 1 ≤ (itoaD d).length ∧ (itoaD d).length ≤ 2 := by unfold itoaD; split <;> simp
theorem txt_len : ∀ l : List Nat, l.length ≤ (txt l).length ∧ (txt l).length ≤ 2 * l.length
  | [] => by simp [txt]
  | d :: l => by
    have h1 := itoaD_len12 d
    have h2 := txt_len l
    rw [txt, List.length_append, List.length_cons]
    omega
theorem layout_len (d : List UInt8) (k : Int) (h1 : d.length ≤ 80) (h2 : -200 ≤ k) (h3 : k ≤ 200) : (layoutV d k).length ≤ 500 := by
  unfold layoutV
  split
  · have a := point_len (d.take 1) (d.drop 1)
    have b := Lib.itoa_length_le (k - 1) (by omega) (by omega)
    rw [List.length_append, List.length_append, List.length_singleton]
    rw [List.length_take, List.length_drop] at a
    omega
  · split
    · have a := point_len [] (List.replicate (-k).toNat 48 ++ d)
      rw [List.length_append, List.length_replicate] at a
      simp only [List.length_nil] at a
      omega
    · split
      · have a := point_len (d ++ List.replicate (k - d.length).toNat 48) []
        rw [List.length_append, List.length_replicate] at a
        simp only [List.length_nil] at a
        omega
      · have a := point_len (d.take k.toNat) (d.drop k.toNat)
        rw [List.length_take, List.length_drop] at a
        omega
theorem even_idx {m x : Int} (h : Vd m x) (m0 : m ≠ 0) : (m.tmod 2 == 0) = true ↔ idx m x % 2 = 0 := by
  obtain ⟨h1, _⟩ := idx_parts h m0
  rw [← mant_par, h1]
  constructor
  · intro e
    have e : m.tmod 2 = 0 := by simpa using e
    have := Int.mul_tdiv_add_tmod m 2
    omega
  · intro e
    have : m.tmod 2 = 0 := Int.tmod_eq_zero_of_dvd (by omega)
    simpa using this
/-- The whole of what is known of a real's digits. -/
structure Digs (m x : Int) (t : List Nat) (g u v : Nat) : Prop where
  eq : shortL (m.tmod 2 == 0) (prD m x).size 60 (prD m x).num (prD m x).below (prD m x).above = t ++ [g]
  point : (prD m x).point = (u : Int) - v
  ub : u ≤ 60
  vb : v ≤ 60
  nine : ∀ d, d ∈ t → d ≤ 9
  one : 1 ≤ g
  ten : g ≤ 9 ∨ g = 10 ∧ t = []
  len : t.length + 1 ≤ 9
  near : Near (valD (t ++ [g]) * 10 ^ u * tw 151) (10 ^ (v + (t.length + 1))) (idx m x)
  out : ¬ Near (valD t * 10 * 10 ^ u * tw 151) (10 ^ (v + (t.length + 1))) (idx m x)
theorem digs_of {m x : Int} (h : Vd m x) (m0 : m ≠ 0) : (∃ t g u v, Digs m x t g u v) ∧ printOK m x = true := by
  obtain ⟨n, b, a, s, e0, n0, nb1, s0, sb, bn, an, b0, e1, e2, e3⟩ := dec_start h m0
  obtain ⟨u, v, u1, v1, k1, k2, k3, k4, k5, k6, k7⟩ := dec_loops n0 nb1 s0 sb bn an
  have hD : prD m x = ⟨n * 10 ^ v, b * 10 ^ v, a * 10 ^ v, s * 10 ^ u, (u : Int) - v⟩ := by
    show decDown 60 (decUp 60 (decStart m.natAbs x)) = _
    rw [e0, k1, k2]
  have hU : decUp 60 (decStart m.natAbs x) = ⟨n, b, a, s * 10 ^ u, u⟩ := by rw [e0, k1]
  have hB := belowB_le m.natAbs x
  have hM : m.natAbs < 16777216 := h.1
  have hM0 : 0 < m.natAbs := by omega
  have hY := pow_pos2 (x + 150).toNat
  have tp := tw_pos 152
  have t1 : tw 152 = tw 150 * 4 := by unfold tw; rw [show (152 : Nat) = 150 + 2 from rfl, Nat.pow_add]
  have en : n * tw 152 = s * (4 * m.natAbs * 2 ^ (x + 150).toNat) := by
    have : n * tw 152 = n * tw 150 * 4 := by rw [t1]; ac_rfl
    rw [this, e1]; ac_rfl
  -- b < n, a > 0, and what nine digits want
  have hbn : b < n := by
    refine (Nat.mul_lt_mul_right tp).1 ?_
    rw [e2, en]
    refine (Nat.mul_lt_mul_left s0).2 ((Nat.mul_lt_mul_right hY).2 (by omega))
  have ha0 : 0 < a := by
    rcases Nat.eq_zero_or_pos a with g | g
    · exfalso
      rw [g, Nat.zero_mul] at e3
      have := Nat.mul_pos s0 (Nat.mul_pos (show 0 < 2 by omega) hY)
      omega
    · exact g
  have h9 : n * 10 < (b + a) * 10 ^ 9 := by
    refine (Nat.mul_lt_mul_right tp).1 ?_
    have l1 : n * 10 * tw 152 = s * (40 * m.natAbs * 2 ^ (x + 150).toNat) := by
      have : n * 10 * tw 152 = n * tw 152 * 10 := by ac_rfl
      rw [this, en, show 40 * m.natAbs = 4 * m.natAbs * 10 by omega]; ac_rfl
    have l2 : (b + a) * 10 ^ 9 * tw 152 = s * ((belowB m.natAbs x + 2) * 10 ^ 9 * 2 ^ (x + 150).toNat) := by
      have : (b + a) * 10 ^ 9 * tw 152 = (b * tw 152 + a * tw 152) * 10 ^ 9 := by rw [Nat.add_mul, Nat.add_mul, Nat.add_mul]; ac_rfl
      rw [this, e2, e3, ← Nat.mul_add, ← Nat.add_mul]; ac_rfl
    rw [l1, l2]
    refine (Nat.mul_lt_mul_left s0).2 ((Nat.mul_lt_mul_right hY).2 ?_)
    have : (10 : Nat) ^ 9 = 1000000000 := by decide
    rw [this]; omega
  have h16 : 16 * (s * 10 ^ u) ≤ M384 := by
    have := tw_le_M (k := 184) (by omega)
    have e : tw 184 = 16 * tw 180 := tw_succ4 180
    omega
  have tv := ten_pos v
  have hS0 : 0 < s * 10 ^ u := Nat.mul_pos s0 (ten_pos u)
  have pb : b * 10 ^ v < n * 10 ^ v := (Nat.mul_lt_mul_right tv).2 hbn
  have pa : a * 10 ^ v ≤ n * 10 ^ v := Nat.mul_le_mul_right _ an
  have pS : s * 10 ^ u ≤ b * 10 ^ v * 10 ^ (59 + 1) := by
    have q1 : n * 10 ≤ b * 10 ^ (59 + 1) := by
      have q2 : n < 10 ^ 53 := Nat.lt_of_lt_of_le nb1 ten_53
      have q3 : 10 ^ (59 + 1) ≤ b * 10 ^ (59 + 1) := Nat.le_mul_of_pos_left _ b0
      have q4 : 10 ^ 53 * 10 ≤ 10 ^ (59 + 1) := by decide
      omega
    have q5 := Nat.mul_le_mul_right (10 ^ v) q1
    have q6 : n * 10 * 10 ^ v = n * 10 ^ v * 10 := Nat.mul_right_comm ..
    have q7 : b * 10 ^ (59 + 1) * 10 ^ v = b * 10 ^ v * 10 ^ (59 + 1) := Nat.mul_right_comm ..
    omega
  obtain ⟨t, g, sh⟩ := short_spec (even := m.tmod 2 == 0) h16 hS0 59 (n * 10 ^ v) (b * 10 ^ v) (a * 10 ^ v) k5 (by omega) (by omega) (Nat.mul_pos ha0 tv) (.inl pb) pS
  have hl : t.length + 1 ≤ 9 := by
    have := short_len (even := m.tmod 2 == 0) h16 hS0 60 8 (n * 10 ^ v) (b * 10 ^ v) (a * 10 ^ v) k5 (by omega) (by omega) (by
      have q5 := (Nat.mul_lt_mul_right tv).2 h9
      have q6 : n * 10 * 10 ^ v = n * 10 ^ v * 10 := Nat.mul_right_comm ..
      have q7 : (b + a) * 10 ^ 9 * 10 ^ v = (b * 10 ^ v + a * 10 ^ v) * 10 ^ (8 + 1) := by rw [Nat.mul_right_comm, Nat.add_mul b]
      omega)
    rw [sh.eq, List.length_append, List.length_singleton] at this
    exact this
  have nine := sh.nine
  have ten : g ≤ 9 ∨ g = 10 ∧ t = [] := by
    rcases sh.ten with c | ⟨c, c2, _⟩
    · exact .inl c
    · exact .inr ⟨c, c2⟩
  have sc : ∀ c, c * 10 ^ v * 10 ^ (t.length + 1) = c * 10 ^ (v + (t.length + 1)) := fun c => by rw [Nat.mul_assoc, ← Nat.pow_add]
  obtain ⟨i1, i2⟩ := in_near (w := 10 ^ u) (q := 10 ^ (v + (t.length + 1))) (V := valD (t ++ [g])) (even := m.tmod 2 == 0) s0 (idx_pos h m0) e1 e2 e3 (mid_self h m0) (mid_below h m0) (even_idx h m0)
  obtain ⟨_, j2⟩ := in_near (w := 10 ^ u) (q := 10 ^ (v + (t.length + 1))) (V := valD t * 10) (even := m.tmod 2 == 0) s0 (idx_pos h m0) e1 e2 e3 (mid_self h m0) (mid_below h m0) (even_idx h m0)
  have hi := sh.inI
  have ho := sh.out
  rw [sc, sc, sc] at hi
  rw [sc, sc] at ho
  refine ⟨⟨t, g, u, v, ⟨by rw [hD]; exact sh.eq, by rw [hD], u1, v1, nine, sh.one, ten, hl, i1 hi, j2 ho⟩⟩, ?_⟩
  -- the loops end
  have hP : prP m x = if txt (t ++ [g]) = [49, 48] then ([49], (u : Int) - v + 1) else (txt (t ++ [g]), (u : Int) - v) := by
    unfold prP shT
    rw [hD]
    simp only
    rw [sh.eq]
  obtain ⟨l1, l2⟩ := txt_len (t ++ [g])
  rw [List.length_append, List.length_singleton] at l1 l2
  have hP1 : 1 ≤ (prP m x).1.length ∧ (prP m x).1.length ≤ 80 ∧ -200 ≤ (prP m x).2 ∧ (prP m x).2 ≤ 200 := by
    rw [hP]
    split
    · simp; omega
    · simp only; omega
  have hN6 : tw 180 < N6 := by
    unfold tw
    decide +kernel
  unfold printOK
  simp only [Bool.and_eq_true, decide_eq_true_eq]
  rw [hU, e0]
  have hdd : decDown 60 ⟨n, b, a, s * 10 ^ u, u⟩ = ⟨n * 10 ^ v, b * 10 ^ v, a * 10 ^ v, s * 10 ^ u, (u : Int) - v⟩ := k2
  rw [hdd]
  simp only
  refine ⟨⟨⟨⟨⟨⟨⟨⟨⟨⟨⟨⟨⟨⟨⟨⟨k3, k4⟩, by omega⟩, by omega⟩, k5⟩, by omega⟩, by omega⟩, by omega⟩, by omega⟩, sh.done⟩, by omega⟩, by omega⟩, hP1.1⟩, hP1.2.1⟩, hP1.2.2.1⟩, hP1.2.2.2⟩, layout_len _ _ hP1.2.1 hP1.2.2.1 hP1.2.2.2⟩
end Go.Proofs.YtogfiekbikechaaGreatDoor

namespace Go.Proofs.YtogfiekbikechaaGreatDoor

theorem valL_from (l : List UInt8) : ∀ a, l.foldl (fun n (c : UInt8) => n * 10 + (c.toNat - 48)) a = a * 10 ^ l.length + valL l := by
  induction l with
  | nil => intro a; simp [valL]
  | cons d l ih =>
    intro a
    unfold valL
    rw [List.foldl_cons, List.foldl_cons, ih, ih (0 * 10 + _), List.length_cons, Nat.pow_succ]
    rw [Nat.add_mul, Nat.zero_mul, Nat.zero_add, Nat.mul_assoc, Nat.mul_comm 10, Nat.add_assoc]
theorem valL_app (a b : List UInt8) : valL (a ++ b) = valL a * 10 ^ b.length + valL b := by
  unfold valL
  rw [List.foldl_append]
  exact valL_from b _
theorem valL_zero (l : List UInt8) : valL (48 :: l) = valL l := by unfold valL; rw [List.foldl_cons]; rfl
theorem valL_drop : ∀ l : List UInt8, valL (l.dropWhile (· == 48)) = valL l
  | [] => rfl
  | c :: l => by
    rw [List.dropWhile_cons]
    by_cases h : c = 48
    · subst h
      simp only [beq_self_eq_true, if_true]
      rw [valL_zero, valL_drop l]
    · have : (c == 48) = false := by simpa using h
      rw [this]; rfl
theorem lead_drop : ∀ l : List UInt8, Lead (l.dropWhile (· == 48))
  | [] => fun c t h => by cases h
  | c :: l => by
    rw [List.dropWhile_cons]
    by_cases h : c = 48
    · subst h
      simp only [beq_self_eq_true, if_true]
      exact lead_drop l
    · have : (c == 48) = false := by simpa using h
      rw [this]
      intro d t e
      cases e
      exact h
theorem all_drop {l : List UInt8} (h : l.all isDg = true) : (l.dropWhile (· == 48)).all isDg = true := by
  rw [List.all_eq_true] at h ⊢
  exact fun c hc => h c ((List.dropWhile_sublist _).subset hc)
theorem len_drop (l : List UInt8) : (l.dropWhile (· == 48)).length ≤ l.length := (List.dropWhile_sublist _).length_le
def sgn (neg : Bool) : List UInt8 := if neg then [45] else []
theorem near_cross {P D P' D' r : Nat} (hD : 0 < D) (hD' : 0 < D') (e : P * D' = P' * D) : Near P D r ↔ Near P' D' r := by
  rw [← near_scale (P := P) (D := D) hD', ← near_scale (P := P') (D := D') hD, e, Nat.mul_comm D D']
end Go.Proofs.YtogfiekbikechaaGreatDoor

namespace Go.Proofs.YtogfiekbikechaaGreatDoor

theorem sgn_len (neg : Bool) : (sgn neg).length ≤ 1 := by cases neg <;> simp [sgn]
end Go.Proofs.YtogfiekbikechaaGreatDoor

namespace Go.Proofs.YtogfiekbikechaaGreatDoor

theorem dig_byte : ∀ d : Fin 10, isDg (UInt8.ofNat (48 + d.val)) = true ∧ (UInt8.ofNat (48 + d.val)).toNat - 48 = d.val := by decide
theorem txt_dg : ∀ l : List Nat, (∀ d, d ∈ l → d ≤ 9) → (txt l).all isDg = true ∧ (txt l).length = l.length ∧ valL (txt l) = valD l
  | [], _ => ⟨rfl, rfl, rfl⟩
  | d :: l, h => by
    obtain ⟨h1, h2, h3⟩ := txt_dg l (fun c hc => h c (List.mem_cons_of_mem _ hc))
    have hd : d ≤ 9 := h d List.mem_cons_self
    obtain ⟨b1, b2⟩ := dig_byte ⟨d, by omega⟩
    simp only at b1 b2
    have e : txt (d :: l) = [UInt8.ofNat (48 + d)] ++ txt l := by rw [txt]; unfold itoaD; rw [if_pos (by omega)]
    rw [e]
    refine ⟨by rw [List.all_append, h1, List.all_cons, b1]; rfl, by rw [List.length_append, h2]; simp; omega, ?_⟩
    rw [valL_app, h3, valD_cons, h2]
    have : valL [UInt8.ofNat (48 + d)] = d := by
      show 0 * 10 + ((UInt8.ofNat (48 + d)).toNat - 48) = d
      omega
    rw [this]
theorem txt_ne {l : List Nat} (h : ∀ d, d ∈ l → d ≤ 9) : txt l = [49, 48] → l = [1, 0] := by
  intro e
  match l, h, e with
  | [], _, e => cases e
  | [a], h, e =>
    have := (txt_dg [a] h).2.1
    rw [e] at this; cases this
  | [a, b], h, e =>
    obtain ⟨_, _, h3⟩ := txt_dg [a, b] h
    have ha : a ≤ 9 := h a (by simp)
    have hb : b ≤ 9 := h b (by simp)
    rw [e] at h3
    have e1 : valL [49, 48] = 10 := by decide
    have e2 : valD [a, b] = a * 10 + b := by simp [valD]
    rw [e1, e2] at h3
    have q1 : a = 1 := by omega
    have q2 : b = 0 := by omega
    rw [q1, q2]
  | a :: b :: c :: l, h, e =>
    have := (txt_dg (a :: b :: c :: l) h).2.1
    rw [e] at this
    simp at this
/-- The digits' bytes and the place of the point. -/
theorem prP_of {m x : Int} {t : List Nat} {g u v : Nat} (h : Digs m x t g u v) : ∃ d k, prP m x = (d, k) ∧ d.all isDg = true ∧ d ≠ [] ∧ d.length ≤ 9 ∧ -60 ≤ k ∧ k ≤ 61 ∧
    (g ≤ 9 → d = txt (t ++ [g]) ∧ k = (u : Int) - v) ∧ (∀ r, Near (valL d * 10 ^ (k - d.length).toNat * tw 151) (10 ^ (-(k - d.length)).toNat) r ↔ Near (valD (t ++ [g]) * 10 ^ u * tw 151) (10 ^ (v + (t.length + 1))) r) := by
  have e0 : prP m x = if txt (t ++ [g]) = [49, 48] then ([49], (u : Int) - v + 1) else (txt (t ++ [g]), (u : Int) - v) := by
    unfold prP shT
    simp only
    rw [h.eq, h.point]
  have ub := h.ub
  have vb := h.vb
  have ln := h.len
  rcases h.ten with g9 | ⟨g10, t0⟩
  · have all9 : ∀ d, d ∈ t ++ [g] → d ≤ 9 := fun d hd => by
      rcases List.mem_append.1 hd with hd | hd
      · exact h.nine d hd
      · rw [List.mem_singleton.1 hd]; exact g9
    obtain ⟨a1, a2, a3⟩ := txt_dg _ all9
    have hne : ¬ txt (t ++ [g]) = [49, 48] := fun e => by
      have e2 := txt_ne all9 e
      have : g = 0 := by
        have := congrArg (fun l => l.getLast?) e2
        simpa using this
      have := h.one
      omega
    rw [if_neg hne] at e0
    rw [List.length_append, List.length_singleton] at a2
    refine ⟨_, _, e0, a1, ?_, by omega, by omega, by omega, fun _ => ⟨rfl, rfl⟩, fun r => ?_⟩
    · intro e; rw [e] at a2; simp at a2
    · rw [a3, a2]
      refine near_cross (ten_pos _) (ten_pos _) ?_
      have s1 : ∀ a b c d : Nat, a * b * c * d = a * c * (b * d) := fun a b c d => by ac_rfl
      rw [s1, s1 _ (10 ^ u), ← Nat.pow_add, ← Nat.pow_add]
      congr 2
      omega
  · subst g10 t0
    have e1 : txt ([] ++ [10]) = [49, 48] := by decide
    rw [if_pos e1] at e0
    refine ⟨_, _, e0, by decide, by simp, by simp, by omega, by omega, fun c => absurd c (by omega), fun r => ?_⟩
    have v1 : valL [49] = 1 := by decide
    have v2 : valD ([] ++ [10]) = 10 := by decide
    rw [v1, v2]
    refine near_cross (ten_pos _) (ten_pos _) ?_
    simp only [List.length_singleton, List.length_nil]
    have s1 : ∀ a b c d : Nat, a * b * c * d = a * c * (b * d) := fun a b c d => by ac_rfl
    rw [s1, s1 10 (10 ^ u), ← Nat.pow_add, ← Nat.pow_add, Nat.one_mul, Nat.mul_comm 10, Nat.mul_assoc (tw 151), Nat.mul_comm 10 (10 ^ _), ← Nat.pow_succ]
    congr 2
    omega
theorem print_sgn (m x : Int) : printV m x = sgn (decide (m < 0)) ++ layoutV (prP m x).1 (prP m x).2 := by
  unfold printV sgn
  simp only
  by_cases h : m < 0
  · rw [if_pos h, decide_eq_true h]; rfl
  · rw [if_neg h, decide_eq_false h]; rfl
end Go.Proofs.YtogfiekbikechaaGreatDoor

namespace Go.Proofs.YtogfiekbikechaaGreatDoor

end Go.Proofs.YtogfiekbikechaaGreatDoor
