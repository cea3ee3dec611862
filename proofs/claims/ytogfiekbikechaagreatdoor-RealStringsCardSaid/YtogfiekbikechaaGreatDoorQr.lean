/- Layer 2: the reference's Parse gives what the program's Parse gives. -/
import Derived.Test.YtogfiekbikechaaGreatDoorQq
namespace Go.Proofs.YtogfiekbikechaaGreatDoor
open Go.RowKit

theorem rnd_ok {o : Option (Int × Int)} {m1 x1 : Int} {ok1 : Bool} (h : rndV o = .agg #[.int .i64 m1, .int .i64 x1, .bool ok1]) : (ok1 = true → o = some (m1, x1)) ∧ (ok1 = false → o = none) := by
  cases o with
  | none =>
    have e3 : false = ok1 := by injection h with h1; injection h1 with h2; injection h2 with h3 h4; injection h4 with h5 h6; injection h6 with h7 h8; injection h7
    subst e3
    exact ⟨fun c => by (cases c), fun _ => rfl⟩
  | some q =>
    obtain ⟨a, b⟩ := q
    have e1 : a = m1 := by injection h with h1; injection h1 with h2; injection h2 with h3 h4; injection h3
    have e2 : b = x1 := by injection h with h1; injection h1 with h2; injection h2 with h3 h4; injection h4 with h5 h6; injection h5
    have e3 : true = ok1 := by injection h with h1; injection h1 with h2; injection h2 with h3 h4; injection h4 with h5 h6; injection h6 with h7 h8; injection h7
    subst e1 e2 e3
    exact ⟨fun _ => rfl, fun c => by (cases c)⟩
theorem parse_of {l : List UInt8} {N : Num} (h : readV l = some N) : rparseV l = okV (numV N) ∧ rparseE l = okE (numV N) := by
  unfold rparseV rparseE
  rw [h]
  exact ⟨rfl, rfl⟩
theorem parse_ref (s : ByteArray) (hs : s.size ≤ 1000) : Ret 46 #[.string s] (.agg #[.int .i64 (rparseV s.data.toList).1, .int .i64 (rparseV s.data.toList).2, .int .i64 (rparseE s.data.toList)]) := by
  intro w
  refine rparse_walk s hs _ _ _ ?_ ?_ w
  · intro h
    unfold rparseV rparseE
    rw [h]
    exact ⟨rfl, rfl, rfl⟩
  · intro mi D af le E g
    obtain ⟨p1, p2⟩ := parse_of g.val
    have dl : D.data.toList.length = D.size := by simp
    obtain ⟨q1, q2, q3⟩ := parse_math (mi := mi) (le := le) (af := af) g.d (by rw [dl]; exact g.dl) g.e g.al
    rw [p1, p2]
    obtain ⟨ex, hex⟩ : ∃ ex, expB le E.data.toList af = ex := ⟨_, rfl⟩
    rw [hex] at q1 q2 q3
    have hb := bF_le E.data.toList
    have hal := g.al
    have pin : PIn D af le E (valL D.data.toList) (bF E.data.toList) (if le then -(bF E.data.toList : Int) else bF E.data.toList) ex := by
      have hx : (if le then -(bF E.data.toList : Int) else bF E.data.toList) - (af : Int) = ex := hex
      refine ⟨natural_any D (by have := g.dl; omega) g.d, bounded_any E (by have := g.el; omega) g.e, ?_, ?_, ?_, ?_, rfl, ?_, ?_⟩
      · unfold wrap64; omega
      · rw [IntWalk.i64_in _ ⟨by omega, by omega⟩]; omega
      · unfold wrap64; omega
      · exact IntWalk.i64_in _ ⟨by omega, by omega⟩
      · rw [hx]; cases le <;> simp only [Bool.false_eq_true, if_false, if_true] at hx <;> (unfold wrap64; omega)
      · rw [hx]; cases le <;> simp only [Bool.false_eq_true, if_false, if_true] at hx <;> exact IntWalk.i64_in _ ⟨by omega, by omega⟩
    have hn : valL D.data.toList < 10 ^ 60 := Nat.lt_of_lt_of_le (valL_lt _ _ rfl g.d) (Nat.pow_le_pow_right (by omega) (by rw [dl]; exact g.dl))
    have hn2 : valL D.data.toList < 2 ^ 241 := Nat.lt_of_lt_of_le hn (by decide +kernel)
    clear hn
    generalize numV (numOf mi D.data.toList (-(af : Int) + expT le E.data.toList)) = nv at *
    by_cases hr : ¬ ex < -200 ∧ ¬ ex > 200
    · obtain ⟨r, n1, n2⟩ := q3 (by omega) (by omega)
      obtain ⟨m1, x1, ok1, V1⟩ := rnd_form (resI mi r)
      obtain ⟨o1, o2⟩ := rnd_ok V1
      refine ⟨_, _, _, ex, m1, x1, ok1, pin, ⟨fun h => ?_, fun _ h => absurd h hr.2, fun _ _ _ h => ?_, fun _ _ _ h => ?_, fun _ _ h => ?_, fun _ _ h => ?_⟩⟩
      · rw [q1 (by rcases h with h | h; exact .inl h; exact absurd h hr.1)]; exact ⟨rfl, rfl, rfl⟩
      · rw [n2, o1 h]; exact ⟨rfl, rfl, rfl⟩
      · rw [n2, o2 h]; exact ⟨rfl, rfl, rfl⟩
      · obtain ⟨k, rfl⟩ : ∃ k : Nat, ex = (k : Int) := ⟨ex.toNat, by omega⟩
        rw [show (-((k : Nat) : Int)).toNat = 0 by omega, Nat.pow_zero, Int.toNat_natCast] at n1
        obtain ⟨e, le1, t1⟩ := ten_size (k := k) (by omega)
        have hm := fits_mul hn2 t1 (by clear t1 hn2 n1; omega)
        exact ⟨10 ^ k, ten_nat (by omega), hm.2, round_s (by omega) hm.1 (by clear t1 hn2 n1 hm; omega) (show 1 < 2 ^ 1 by decide) (by omega) n1 V1⟩
      · obtain ⟨k, rfl⟩ : ∃ k : Nat, ex = -(k : Int) := ⟨(-ex).toNat, by omega⟩
        rw [show (-((k : Nat) : Int)).toNat = 0 by omega, Nat.pow_zero, Nat.mul_one, show (-(-((k : Nat) : Int))).toNat = k by omega] at n1
        obtain ⟨e, le1, t1⟩ := ten_size (k := k) (by omega)
        refine ⟨(k : Int), 10 ^ k, ?_, ?_, ?_, ?_, ten_nat (by omega), round_s (ten_pos k) hn2 (by omega) t1 (by clear t1 hn2 n1; omega) n1 V1⟩
        · clear t1 hn2 n1; unfold wrap64; omega
        · clear t1 hn2 n1; rw [IntWalk.i64_in _ ⟨by omega, by omega⟩]; omega
        · clear t1 hn2 n1; unfold wrap64; omega
        · clear t1 hn2 n1; rw [IntWalk.i64_in _ ⟨by omega, by omega⟩]; omega
    · refine ⟨_, _, _, ex, 0, 0, false, pin, ⟨fun h => ?_, fun h1 h => ?_, fun _ a b _ => absurd ⟨a, b⟩ hr, fun _ a b _ => absurd ⟨a, b⟩ hr, fun a b _ => absurd ⟨a, b⟩ hr, fun a b _ => absurd ⟨a, b⟩ hr⟩⟩
      · rw [q1 h]; exact ⟨rfl, rfl, rfl⟩
      · rw [q2 h1 (by omega)]; exact ⟨rfl, rfl, rfl⟩
end Go.Proofs.YtogfiekbikechaaGreatDoor
