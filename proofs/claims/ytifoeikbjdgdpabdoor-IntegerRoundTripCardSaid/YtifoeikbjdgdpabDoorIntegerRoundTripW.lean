/- The walk of IntegerRoundTrip. -/
import Derived.Test.YtifoeikbjdgdpabDoorWq
import Derived.Test.YtifoeikbjdgdpabDoorWg
namespace Go.Proofs.YtifoeikbjdgdpabDoor.integerRoundTrip
open Go.RowKit Go.Lib

theorem app_list (a : ByteArray) (l : List UInt8) : (a ++ (⟨l.toArray⟩ : ByteArray)).data.toList = a.data.toList ++ l := by simp
theorem app_size (a : ByteArray) (l : List UInt8) : (a ++ (⟨l.toArray⟩ : ByteArray)).size = a.size + l.length := by
  rw [ByteArray.size_append]; rfl
theorem itoa_one {d : Int} (h0 : 0 ≤ d) (h9 : d ≤ 9) : (itoa d).length = 1 := by
  unfold itoa; rw [if_neg (by omega), decDigits_one (by omega)]; rfl

set_option maxRecDepth 100000 in
set_option maxHeartbeats 2000000 in
theorem walk_ok_bad (a0 : Int) (a1 : ByteArray) (a2 : Int) (w : World) (ht : Pow10 w) (hk : okB a0 = true) (pi : ∀ w, Calls Tryd.prog 18 #[.string ⟨(itoa a0).toArray⟩] w fun e w' => e = .returned (.tuple #[.int .i64 a0, .int .i64 0]) ∧ w = w') (v f : Int) (pt : ∀ w, Calls Tryd.prog 18 #[.string a1] w fun e w' => e = .returned (.tuple #[.int .i64 v, .int .i64 f]) ∧ w = w') (hf : (f != 0) = true) :
    Calls Tryd.prog 9 #[.int .i64 a0, .string a1, .int .i64 a2] w fun e w' => e = .returned (.bool true) ∧ Ext w w' := by
  have HT : Hid (Pow10 w) := ht
  clear ht
  have PI := Lib.hid pi
  clear pi
  have PT := Lib.hid pt
  clear pt
  go_enter Tryd.func9, Tryd.ntmps9
  go_wp2_with fail
  refine (awake_any _).mono ?_
  rintro e w1 ⟨rfl, hx1⟩
  have y1 : Ext w w1 := hx1
  go_wp2_with fail
  refine (print_ok _ _ hk (HT.out.later y1)).mono ?_
  rintro e w2 ⟨rfl, hx2⟩
  have y2 : Ext w w2 := y1.trans hx2
  go_wp2_with fail
  refine (PI.out _).mono ?_
  rintro e w' ⟨rfl, rfl⟩
  go_wp2_with fail
  refine (valid_any _ _).mono ?_
  rintro e w' ⟨rfl, rfl⟩
  go_wp2_with fail
  refine (PT.out _).mono ?_
  rintro e w' ⟨rfl, rfl⟩
  go_wp2_with fail
  go_ret
  exact ⟨rfl, y2⟩

set_option maxRecDepth 100000 in
set_option maxHeartbeats 2000000 in
theorem walk_ok_neg (a0 : Int) (a1 : ByteArray) (a2 : Int) (w : World) (ht : Pow10 w) (hk : okB a0 = true) (pi : ∀ w, Calls Tryd.prog 18 #[.string ⟨(itoa a0).toArray⟩] w fun e w' => e = .returned (.tuple #[.int .i64 a0, .int .i64 0]) ∧ w = w') (v : Int) (pt : ∀ w, Calls Tryd.prog 18 #[.string a1] w fun e w' => e = .returned (.tuple #[.int .i64 v, .int .i64 0]) ∧ w = w') (hd : a2 < 0) :
    Calls Tryd.prog 9 #[.int .i64 a0, .string a1, .int .i64 a2] w fun e w' => e = .returned (.bool true) ∧ Ext w w' := by
  have HT : Hid (Pow10 w) := ht
  clear ht
  have PI := Lib.hid pi
  clear pi
  have PT := Lib.hid pt
  clear pt
  go_enter Tryd.func9, Tryd.ntmps9
  go_wp2_with fail
  refine (awake_any _).mono ?_
  rintro e w1 ⟨rfl, hx1⟩
  have y1 : Ext w w1 := hx1
  go_wp2_with fail
  refine (print_ok _ _ hk (HT.out.later y1)).mono ?_
  rintro e w2 ⟨rfl, hx2⟩
  have y2 : Ext w w2 := y1.trans hx2
  go_wp2_with fail
  refine (PI.out _).mono ?_
  rintro e w' ⟨rfl, rfl⟩
  go_wp2_with fail
  refine (valid_any _ _).mono ?_
  rintro e w' ⟨rfl, rfl⟩
  go_wp2_with fail
  refine (PT.out _).mono ?_
  rintro e w' ⟨rfl, rfl⟩
  go_wp2_with fail
  go_ret
  exact ⟨rfl, y2⟩

set_option maxRecDepth 100000 in
set_option maxHeartbeats 2000000 in
theorem walk_ok_big (a0 : Int) (a1 : ByteArray) (a2 : Int) (w : World) (ht : Pow10 w) (hk : okB a0 = true) (pi : ∀ w, Calls Tryd.prog 18 #[.string ⟨(itoa a0).toArray⟩] w fun e w' => e = .returned (.tuple #[.int .i64 a0, .int .i64 0]) ∧ w = w') (v : Int) (pt : ∀ w, Calls Tryd.prog 18 #[.string a1] w fun e w' => e = .returned (.tuple #[.int .i64 v, .int .i64 0]) ∧ w = w') (hd0 : ¬ a2 < 0) (hd : 9 < a2) :
    Calls Tryd.prog 9 #[.int .i64 a0, .string a1, .int .i64 a2] w fun e w' => e = .returned (.bool true) ∧ Ext w w' := by
  have HT : Hid (Pow10 w) := ht
  clear ht
  have PI := Lib.hid pi
  clear pi
  have PT := Lib.hid pt
  clear pt
  go_enter Tryd.func9, Tryd.ntmps9
  go_wp2_with fail
  refine (awake_any _).mono ?_
  rintro e w1 ⟨rfl, hx1⟩
  have y1 : Ext w w1 := hx1
  go_wp2_with fail
  refine (print_ok _ _ hk (HT.out.later y1)).mono ?_
  rintro e w2 ⟨rfl, hx2⟩
  have y2 : Ext w w2 := y1.trans hx2
  go_wp2_with fail
  refine (PI.out _).mono ?_
  rintro e w' ⟨rfl, rfl⟩
  go_wp2_with fail
  refine (valid_any _ _).mono ?_
  rintro e w' ⟨rfl, rfl⟩
  go_wp2_with fail
  refine (PT.out _).mono ?_
  rintro e w' ⟨rfl, rfl⟩
  go_wp2_with fail
  go_ret
  exact ⟨rfl, y2⟩

set_option maxRecDepth 100000 in
set_option maxHeartbeats 2000000 in
theorem walk_ok_minus (a0 : Int) (a1 : ByteArray) (a2 : Int) (w : World) (ht : Pow10 w) (hk : okB a0 = true) (pi : ∀ w, Calls Tryd.prog 18 #[.string ⟨(itoa a0).toArray⟩] w fun e w' => e = .returned (.tuple #[.int .i64 a0, .int .i64 0]) ∧ w = w') (v : Int) (pt : ∀ w, Calls Tryd.prog 18 #[.string a1] w fun e w' => e = .returned (.tuple #[.int .i64 v, .int .i64 0]) ∧ w = w') (hd0 : 0 ≤ a2) (hd : a2 ≤ 9) (n1 : ¬ a1.toList = []) (n2 : a1.toList.isEmpty = false) (h0 : 0 < a1.size) (c45 : ((a1[0].toNat : Int) == 45) = true) (hcat : ¬ 9223372036854775807 < a1.size + (itoa a2).length) (hcat2 : a1.size + (itoa a2).length ≤ 9223372036854775807) (pl : ∀ w, Calls Tryd.prog 18 #[.string (a1 ++ ⟨(itoa a2).toArray⟩)] w fun e w' => e = .returned (.tuple #[.int .i64 (plusV (mulV v 10) (mulE v 10) (-a2) 0), .int .i64 (plusE (mulV v 10) (mulE v 10) (-a2) 0)]) ∧ w = w') :
    Calls Tryd.prog 9 #[.int .i64 a0, .string a1, .int .i64 a2] w fun e w' => e = .returned (.bool true) ∧ Ext w w' := by
  have HT : Hid (Pow10 w) := ht
  clear ht
  have PI := Lib.hid pi
  clear pi
  have PT := Lib.hid pt
  clear pt
  have PL := Lib.hid pl
  clear pl
  have hk2 : okB a2 = true := okB_t.2 (by omega)
  have HK2 := Lib.hid hk2
  clear hk2
  go_enter Tryd.func9, Tryd.ntmps9
  go_wp2_with fail
  refine (awake_any _).mono ?_
  rintro e w1 ⟨rfl, hx1⟩
  have y1 : Ext w w1 := hx1
  go_wp2_with fail
  refine (print_ok _ _ hk (HT.out.later y1)).mono ?_
  rintro e w2 ⟨rfl, hx2⟩
  have y2 : Ext w w2 := y1.trans hx2
  go_wp2_with fail
  refine (PI.out _).mono ?_
  rintro e w' ⟨rfl, rfl⟩
  go_wp2_with fail
  refine (valid_any _ _).mono ?_
  rintro e w' ⟨rfl, rfl⟩
  go_wp2_with fail
  refine (PT.out _).mono ?_
  rintro e w' ⟨rfl, rfl⟩
  go_wp2_with fail
  refine (print_ok _ _ HK2.out (HT.out.later y2)).mono ?_
  rintro e w3 ⟨rfl, hx3⟩
  have y3 : Ext w w3 := y2.trans hx3
  go_wp2_with fail
  refine (PL.out _).mono ?_
  rintro e w' ⟨rfl, rfl⟩
  go_wp2_with fail
  refine (mul_any _ _ _).mono ?_
  rintro e w' ⟨rfl, rfl⟩
  go_wp2_with fail
  refine (plus_any _ _ _ _ _).mono ?_
  rintro e w' ⟨rfl, rfl⟩
  go_wp2_with fail
  go_ret
  exact ⟨rfl, y3⟩

set_option maxRecDepth 100000 in
set_option maxHeartbeats 2000000 in
theorem walk_ok_plain (a0 : Int) (a1 : ByteArray) (a2 : Int) (w : World) (ht : Pow10 w) (hk : okB a0 = true) (pi : ∀ w, Calls Tryd.prog 18 #[.string ⟨(itoa a0).toArray⟩] w fun e w' => e = .returned (.tuple #[.int .i64 a0, .int .i64 0]) ∧ w = w') (v : Int) (pt : ∀ w, Calls Tryd.prog 18 #[.string a1] w fun e w' => e = .returned (.tuple #[.int .i64 v, .int .i64 0]) ∧ w = w') (hd0 : 0 ≤ a2) (hd : a2 ≤ 9) (n1 : ¬ a1.toList = []) (n2 : a1.toList.isEmpty = false) (h0 : 0 < a1.size) (c45 : ((a1[0].toNat : Int) == 45) = false) (hcat : ¬ 9223372036854775807 < a1.size + (itoa a2).length) (hcat2 : a1.size + (itoa a2).length ≤ 9223372036854775807) (pl : ∀ w, Calls Tryd.prog 18 #[.string (a1 ++ ⟨(itoa a2).toArray⟩)] w fun e w' => e = .returned (.tuple #[.int .i64 (plusV (mulV v 10) (mulE v 10) a2 0), .int .i64 (plusE (mulV v 10) (mulE v 10) a2 0)]) ∧ w = w') :
    Calls Tryd.prog 9 #[.int .i64 a0, .string a1, .int .i64 a2] w fun e w' => e = .returned (.bool true) ∧ Ext w w' := by
  have HT : Hid (Pow10 w) := ht
  clear ht
  have PI := Lib.hid pi
  clear pi
  have PT := Lib.hid pt
  clear pt
  have PL := Lib.hid pl
  clear pl
  have hk2 : okB a2 = true := okB_t.2 (by omega)
  have HK2 := Lib.hid hk2
  clear hk2
  go_enter Tryd.func9, Tryd.ntmps9
  go_wp2_with fail
  refine (awake_any _).mono ?_
  rintro e w1 ⟨rfl, hx1⟩
  have y1 : Ext w w1 := hx1
  go_wp2_with fail
  refine (print_ok _ _ hk (HT.out.later y1)).mono ?_
  rintro e w2 ⟨rfl, hx2⟩
  have y2 : Ext w w2 := y1.trans hx2
  go_wp2_with fail
  refine (PI.out _).mono ?_
  rintro e w' ⟨rfl, rfl⟩
  go_wp2_with fail
  refine (valid_any _ _).mono ?_
  rintro e w' ⟨rfl, rfl⟩
  go_wp2_with fail
  refine (PT.out _).mono ?_
  rintro e w' ⟨rfl, rfl⟩
  go_wp2_with fail
  refine (print_ok _ _ HK2.out (HT.out.later y2)).mono ?_
  rintro e w3 ⟨rfl, hx3⟩
  have y3 : Ext w w3 := y2.trans hx3
  go_wp2_with fail
  refine (PL.out _).mono ?_
  rintro e w' ⟨rfl, rfl⟩
  go_wp2_with fail
  refine (mul_any _ _ _).mono ?_
  rintro e w' ⟨rfl, rfl⟩
  go_wp2_with fail
  refine (plus_any _ _ _ _ _).mono ?_
  rintro e w' ⟨rfl, rfl⟩
  go_wp2_with fail
  go_ret
  exact ⟨rfl, y3⟩

set_option maxRecDepth 100000 in
set_option maxHeartbeats 2000000 in
theorem walk_no_bad (a0 : Int) (a1 : ByteArray) (a2 : Int) (w : World) (ht : Pow10 w) (hk : okB a0 = false) (v f : Int) (pt : ∀ w, Calls Tryd.prog 18 #[.string a1] w fun e w' => e = .returned (.tuple #[.int .i64 v, .int .i64 f]) ∧ w = w') (hf : (f != 0) = true) :
    Calls Tryd.prog 9 #[.int .i64 a0, .string a1, .int .i64 a2] w fun e w' => e = .returned (.bool true) ∧ Ext w w' := by
  have HT : Hid (Pow10 w) := ht
  clear ht
  have PT := Lib.hid pt
  clear pt
  go_enter Tryd.func9, Tryd.ntmps9
  go_wp2_with fail
  refine (awake_any _).mono ?_
  rintro e w1 ⟨rfl, hx1⟩
  have y1 : Ext w w1 := hx1
  go_wp2_with fail
  refine (print_bad _ _ hk).mono ?_
  rintro e w' ⟨rfl, rfl⟩
  go_wp2_with fail
  refine (valid_any _ _).mono ?_
  rintro e w' ⟨rfl, rfl⟩
  go_wp2_with fail
  refine (PT.out _).mono ?_
  rintro e w' ⟨rfl, rfl⟩
  go_wp2_with fail
  go_ret
  exact ⟨rfl, y1⟩

set_option maxRecDepth 100000 in
set_option maxHeartbeats 2000000 in
theorem walk_no_neg (a0 : Int) (a1 : ByteArray) (a2 : Int) (w : World) (ht : Pow10 w) (hk : okB a0 = false) (v : Int) (pt : ∀ w, Calls Tryd.prog 18 #[.string a1] w fun e w' => e = .returned (.tuple #[.int .i64 v, .int .i64 0]) ∧ w = w') (hd : a2 < 0) :
    Calls Tryd.prog 9 #[.int .i64 a0, .string a1, .int .i64 a2] w fun e w' => e = .returned (.bool true) ∧ Ext w w' := by
  have HT : Hid (Pow10 w) := ht
  clear ht
  have PT := Lib.hid pt
  clear pt
  go_enter Tryd.func9, Tryd.ntmps9
  go_wp2_with fail
  refine (awake_any _).mono ?_
  rintro e w1 ⟨rfl, hx1⟩
  have y1 : Ext w w1 := hx1
  go_wp2_with fail
  refine (print_bad _ _ hk).mono ?_
  rintro e w' ⟨rfl, rfl⟩
  go_wp2_with fail
  refine (valid_any _ _).mono ?_
  rintro e w' ⟨rfl, rfl⟩
  go_wp2_with fail
  refine (PT.out _).mono ?_
  rintro e w' ⟨rfl, rfl⟩
  go_wp2_with fail
  go_ret
  exact ⟨rfl, y1⟩

set_option maxRecDepth 100000 in
set_option maxHeartbeats 2000000 in
theorem walk_no_big (a0 : Int) (a1 : ByteArray) (a2 : Int) (w : World) (ht : Pow10 w) (hk : okB a0 = false) (v : Int) (pt : ∀ w, Calls Tryd.prog 18 #[.string a1] w fun e w' => e = .returned (.tuple #[.int .i64 v, .int .i64 0]) ∧ w = w') (hd0 : ¬ a2 < 0) (hd : 9 < a2) :
    Calls Tryd.prog 9 #[.int .i64 a0, .string a1, .int .i64 a2] w fun e w' => e = .returned (.bool true) ∧ Ext w w' := by
  have HT : Hid (Pow10 w) := ht
  clear ht
  have PT := Lib.hid pt
  clear pt
  go_enter Tryd.func9, Tryd.ntmps9
  go_wp2_with fail
  refine (awake_any _).mono ?_
  rintro e w1 ⟨rfl, hx1⟩
  have y1 : Ext w w1 := hx1
  go_wp2_with fail
  refine (print_bad _ _ hk).mono ?_
  rintro e w' ⟨rfl, rfl⟩
  go_wp2_with fail
  refine (valid_any _ _).mono ?_
  rintro e w' ⟨rfl, rfl⟩
  go_wp2_with fail
  refine (PT.out _).mono ?_
  rintro e w' ⟨rfl, rfl⟩
  go_wp2_with fail
  go_ret
  exact ⟨rfl, y1⟩

set_option maxRecDepth 100000 in
set_option maxHeartbeats 2000000 in
theorem walk_no_minus (a0 : Int) (a1 : ByteArray) (a2 : Int) (w : World) (ht : Pow10 w) (hk : okB a0 = false) (v : Int) (pt : ∀ w, Calls Tryd.prog 18 #[.string a1] w fun e w' => e = .returned (.tuple #[.int .i64 v, .int .i64 0]) ∧ w = w') (hd0 : 0 ≤ a2) (hd : a2 ≤ 9) (n1 : ¬ a1.toList = []) (n2 : a1.toList.isEmpty = false) (h0 : 0 < a1.size) (c45 : ((a1[0].toNat : Int) == 45) = true) (hcat : ¬ 9223372036854775807 < a1.size + (itoa a2).length) (hcat2 : a1.size + (itoa a2).length ≤ 9223372036854775807) (pl : ∀ w, Calls Tryd.prog 18 #[.string (a1 ++ ⟨(itoa a2).toArray⟩)] w fun e w' => e = .returned (.tuple #[.int .i64 (plusV (mulV v 10) (mulE v 10) (-a2) 0), .int .i64 (plusE (mulV v 10) (mulE v 10) (-a2) 0)]) ∧ w = w') :
    Calls Tryd.prog 9 #[.int .i64 a0, .string a1, .int .i64 a2] w fun e w' => e = .returned (.bool true) ∧ Ext w w' := by
  have HT : Hid (Pow10 w) := ht
  clear ht
  have PT := Lib.hid pt
  clear pt
  have PL := Lib.hid pl
  clear pl
  have hk2 : okB a2 = true := okB_t.2 (by omega)
  have HK2 := Lib.hid hk2
  clear hk2
  go_enter Tryd.func9, Tryd.ntmps9
  go_wp2_with fail
  refine (awake_any _).mono ?_
  rintro e w1 ⟨rfl, hx1⟩
  have y1 : Ext w w1 := hx1
  go_wp2_with fail
  refine (print_bad _ _ hk).mono ?_
  rintro e w' ⟨rfl, rfl⟩
  go_wp2_with fail
  refine (valid_any _ _).mono ?_
  rintro e w' ⟨rfl, rfl⟩
  go_wp2_with fail
  refine (PT.out _).mono ?_
  rintro e w' ⟨rfl, rfl⟩
  go_wp2_with fail
  refine (print_ok _ _ HK2.out (HT.out.later y1)).mono ?_
  rintro e w2 ⟨rfl, hx2⟩
  have y2 : Ext w w2 := y1.trans hx2
  go_wp2_with fail
  refine (PL.out _).mono ?_
  rintro e w' ⟨rfl, rfl⟩
  go_wp2_with fail
  refine (mul_any _ _ _).mono ?_
  rintro e w' ⟨rfl, rfl⟩
  go_wp2_with fail
  refine (plus_any _ _ _ _ _).mono ?_
  rintro e w' ⟨rfl, rfl⟩
  go_wp2_with fail
  go_ret
  exact ⟨rfl, y2⟩

set_option maxRecDepth 100000 in
set_option maxHeartbeats 2000000 in
theorem walk_no_plain (a0 : Int) (a1 : ByteArray) (a2 : Int) (w : World) (ht : Pow10 w) (hk : okB a0 = false) (v : Int) (pt : ∀ w, Calls Tryd.prog 18 #[.string a1] w fun e w' => e = .returned (.tuple #[.int .i64 v, .int .i64 0]) ∧ w = w') (hd0 : 0 ≤ a2) (hd : a2 ≤ 9) (n1 : ¬ a1.toList = []) (n2 : a1.toList.isEmpty = false) (h0 : 0 < a1.size) (c45 : ((a1[0].toNat : Int) == 45) = false) (hcat : ¬ 9223372036854775807 < a1.size + (itoa a2).length) (hcat2 : a1.size + (itoa a2).length ≤ 9223372036854775807) (pl : ∀ w, Calls Tryd.prog 18 #[.string (a1 ++ ⟨(itoa a2).toArray⟩)] w fun e w' => e = .returned (.tuple #[.int .i64 (plusV (mulV v 10) (mulE v 10) a2 0), .int .i64 (plusE (mulV v 10) (mulE v 10) a2 0)]) ∧ w = w') :
    Calls Tryd.prog 9 #[.int .i64 a0, .string a1, .int .i64 a2] w fun e w' => e = .returned (.bool true) ∧ Ext w w' := by
  have HT : Hid (Pow10 w) := ht
  clear ht
  have PT := Lib.hid pt
  clear pt
  have PL := Lib.hid pl
  clear pl
  have hk2 : okB a2 = true := okB_t.2 (by omega)
  have HK2 := Lib.hid hk2
  clear hk2
  go_enter Tryd.func9, Tryd.ntmps9
  go_wp2_with fail
  refine (awake_any _).mono ?_
  rintro e w1 ⟨rfl, hx1⟩
  have y1 : Ext w w1 := hx1
  go_wp2_with fail
  refine (print_bad _ _ hk).mono ?_
  rintro e w' ⟨rfl, rfl⟩
  go_wp2_with fail
  refine (valid_any _ _).mono ?_
  rintro e w' ⟨rfl, rfl⟩
  go_wp2_with fail
  refine (PT.out _).mono ?_
  rintro e w' ⟨rfl, rfl⟩
  go_wp2_with fail
  refine (print_ok _ _ HK2.out (HT.out.later y1)).mono ?_
  rintro e w2 ⟨rfl, hx2⟩
  have y2 : Ext w w2 := y1.trans hx2
  go_wp2_with fail
  refine (PL.out _).mono ?_
  rintro e w' ⟨rfl, rfl⟩
  go_wp2_with fail
  refine (mul_any _ _ _).mono ?_
  rintro e w' ⟨rfl, rfl⟩
  go_wp2_with fail
  refine (plus_any _ _ _ _ _).mono ?_
  rintro e w' ⟨rfl, rfl⟩
  go_wp2_with fail
  go_ret
  exact ⟨rfl, y2⟩

theorem walk (a0 : Int) (w0 : (Lit.int .i64 a0).wf = true) (a1 : ByteArray) (w1 : a1.size ≤ maxLen) (b1 : a1.size ≤ 140737488351232) (a2 : Int) (w2 : (Lit.int .i64 a2).wf = true) (w : World) (ht : Pow10 w) :
    Calls Tryd.prog 9 #[.int .i64 a0, .string a1, .int .i64 a2] w fun e w' => e = .returned (.bool true) ∧ Ext w w' := by
  have : True := (fun _ _ _ => trivial) w0 w1 w2
  clear this
  have pt : ∀ w, Calls Tryd.prog 18 #[.string a1] w fun e w' => e = .returned (.tuple #[.int .i64 (parseV a1.data.toList), .int .i64 (parseE a1.data.toList)]) ∧ w = w' := fun w => parse_any a1 w (by omega)
  have pi : okB a0 = true → ∀ w, Calls Tryd.prog 18 #[.string ⟨(itoa a0).toArray⟩] w fun e w' => e = .returned (.tuple #[.int .i64 a0, .int .i64 0]) ∧ w = w' := fun hk w => by
    obtain ⟨q1, q2⟩ := parse_itoa hk
    have g := okB_t.1 hk
    have hl := itoa_length_le a0 (by omega) (by omega)
    have := parse_any ⟨(itoa a0).toArray⟩ w (by have : (⟨(itoa a0).toArray⟩ : ByteArray).size = (itoa a0).length := rfl
                                                omega)
    simp only [q1, q2] at this
    exact this
  by_cases he : parseE a1.data.toList = 0
  · rw [he] at pt
    have hne := ok_ne (parseE_0 he).1
    have h0 : 0 < a1.size := by
      rcases Nat.eq_zero_or_pos a1.size with h | h
      · exact absurd (toList_none a1 h).2 hne
      · exact h
    obtain ⟨n1, n2, _⟩ := toList_some a1 h0
    have hm := minus_at a1 h0
    by_cases hd0 : a2 < 0
    · rcases Bool.eq_false_or_eq_true (okB a0) with hk | hk
      · exact walk_ok_neg a0 a1 a2 w ht hk (pi hk) _ pt hd0
      · exact walk_no_neg a0 a1 a2 w ht hk _ pt hd0
    · by_cases hd : 9 < a2
      · rcases Bool.eq_false_or_eq_true (okB a0) with hk | hk
        · exact walk_ok_big a0 a1 a2 w ht hk (pi hk) _ pt hd0 hd
        · exact walk_no_big a0 a1 a2 w ht hk _ pt hd0 hd
      · have h9 : a2 ≤ 9 := by omega
        have h00 : 0 ≤ a2 := by omega
        have pl : ∀ s, (s = if minusB a1.data.toList then -a2 else a2) → ∀ w, Calls Tryd.prog 18 #[.string (a1 ++ ⟨(itoa a2).toArray⟩)] w fun e w' => e = .returned (.tuple #[.int .i64 (plusV (mulV (parseV a1.data.toList) 10) (mulE (parseV a1.data.toList) 10) s 0), .int .i64 (plusE (mulV (parseV a1.data.toList) 10) (mulE (parseV a1.data.toList) 10) s 0)]) ∧ w = w' := fun s hs w => by
          obtain ⟨q1, q2⟩ := longer he a2 h00 h9 s hs
          have hsz := app_size a1 (itoa a2)
          rw [itoa_one h00 h9] at hsz
          have := parse_any (a1 ++ ⟨(itoa a2).toArray⟩) w (by omega)
          rw [app_list, q1, q2] at this
          exact this
        have hl1 := itoa_one h00 h9
        have hc1 : ¬ 9223372036854775807 < a1.size + (itoa a2).length := by omega
        have hc2 : a1.size + (itoa a2).length ≤ 9223372036854775807 := by omega
        rcases Bool.eq_false_or_eq_true ((a1[0].toNat : Int) == 45) with c45 | c45
        · have hm' : minusB a1.data.toList = true := by rw [hm]; exact decide_eq_true (beq45.1 c45)
          rcases Bool.eq_false_or_eq_true (okB a0) with hk | hk
          · exact walk_ok_minus a0 a1 a2 w ht hk (pi hk) _ pt h00 h9 n1 n2 h0 c45 hc1 hc2 (pl _ (by rw [hm', if_pos rfl]))
          · exact walk_no_minus a0 a1 a2 w ht hk _ pt h00 h9 n1 n2 h0 c45 hc1 hc2 (pl _ (by rw [hm', if_pos rfl]))
        · have hm' : minusB a1.data.toList = false := by rw [hm]; exact decide_eq_false (fun e => by rw [beq45.2 e] at c45; cases c45)
          rcases Bool.eq_false_or_eq_true (okB a0) with hk | hk
          · exact walk_ok_plain a0 a1 a2 w ht hk (pi hk) _ pt h00 h9 n1 n2 h0 c45 hc1 hc2 (pl _ (by rw [hm', if_neg (by simp)]))
          · exact walk_no_plain a0 a1 a2 w ht hk _ pt h00 h9 n1 n2 h0 c45 hc1 hc2 (pl _ (by rw [hm', if_neg (by simp)]))
  · have hf : (parseE a1.data.toList != 0) = true := by simpa using he
    rcases Bool.eq_false_or_eq_true (okB a0) with hk | hk
    · exact walk_ok_bad a0 a1 a2 w ht hk (pi hk) _ _ pt hf
    · exact walk_no_bad a0 a1 a2 w ht hk _ _ pt hf
end Go.Proofs.YtifoeikbjdgdpabDoor.integerRoundTrip
