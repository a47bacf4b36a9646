/- What Put put is read by Parse; the law's lives. -/
import Derived.Test.YtggcomociojfoaaTag5
namespace Go.Proofs.Ytggcomociojfoaa
open Go.RowKit

theorem n64_b64 (n : Nat) (hn : n < 18446744073709551616) (l : List UInt8) : n64 (b64 n ++ l) = n := by
  rw [b64, putN_four, putN_four]
  simp only [List.cons_append, List.nil_append, n64, List.take_succ_cons, List.take_zero, List.drop_succ_cons, List.drop_zero, beN_four]
  simp
  omega
theorem be16_num (x : UInt16) : beN (be16 x) = x.toNat := by
  have := x.toNat_lt
  rw [be16, beN_two]
  simp
  omega
theorem be32_num (x : UInt32) : beN (be32 x) = x.toNat := by
  have := x.toNat_lt
  rw [be32, beN_four]
  simp
  omega
theorem ob_parts (n : Nat) (op : UInt8) (id : UInt16) (vip : UInt8) (a : UInt32) (p : UInt16) (pr num : UInt8) (l : List UInt8) :
    ∀ xs, xs = ob n op id vip a p pr num ++ l → xs.take 20 = ob n op id vip a p pr num ∧ xs.getD 8 0 = op ∧ xs.getD 11 0 = vip ∧ xs.getD 18 0 = pr ∧ xs.getD 19 0 = num ∧ (xs.drop 9).take 2 = be16 id ∧ (xs.drop 12).take 4 = be32 a ∧ (xs.drop 16).take 2 = be16 p := by
  intro xs hx
  refine ⟨by rw [hx, List.take_left' (ob_len n op id vip a p pr num)], ?_⟩
  subst hx
  rw [ob, b64, putN_four, putN_four, be16, be32, be16]
  exact ⟨rfl, rfl, rfl, rfl, rfl, rfl, rfl⟩
theorem sgn_eq (lo hi : Nat) (xs : List UInt8) (m : Nat) (hm : xs.length = m) : (sgn lo hi xs).take m = xs := by
  subst hm
  rw [sgn, List.take_left]
section
variable (lo hi : Nat) (h1 : lo < 18446744073709551616) (h2 : hi < 18446744073709551616)
include h1 h2
theorem parse_put (n : Nat) (hn : n < 18446744073709551616) (op : UInt8) (id : UInt16) (vip : UInt8) (a : UInt32) (p : UInt16) (pr num : UInt8) (L : List UInt8) (HL : L = sgn lo hi (ob n op id vip a p pr num)) (A : Option Addr) (c : Nat) (w : World) (hr : Rd bv w w.heap.size A c L) :
    Calls Try.prog 18 #[.agg #[.int .u64 (lo : Int), .int .u64 (hi : Int)], .slice A L.length c] w fun e w' => e = .returned (.tuple #[.agg #[.int .u64 (n : Int), .int .i64 (op.toNat : Int), .int .i64 (id.toNat : Int), .int .i64 (vip.toNat : Int), .int .u32 (a.toNat : Int), .int .u16 (p.toNat : Int), .int .u8 (pr.toNat : Int), .int .i64 (num.toNat : Int)], .int .i64 0]) ∧ Below w.heap.size w w' := by
  have hl : L.length = 28 := by rw [HL, sgn_len, ob_len]
  obtain ⟨t1, t2, t3, t4, t5, t6, t7, t8⟩ := ob_parts n op id vip a p pr num (b64 (sipN lo hi (ob n op id vip a p pr num))) L HL
  have hn2 : n64 L = n := by
    rw [HL, sgn, ob, List.append_assoc]
    exact n64_b64 n hn _
  refine parse_ok lo hi h1 h2 A c L w hr hl ?_ n hn2 op vip pr num t2 t3 t4 t5 id (by rw [t6, be16_num]) a (by rw [t7, be32_num]) p (by rw [t8, be16_num])
  rw [Hid, hl, t1, HL]
  simp
end
set_option maxHeartbeats 1000000 in
theorem lives34_any (w : World) : Calls Try.prog 19 #[] w fun e w' => e = .returned (.bool true) ∧ Below w.heap.size w w' := by
  obtain ⟨lo, el, hl⟩ : ∃ x : Nat, (x : Int) = 1 ∧ x < 18446744073709551616 := ⟨1, rfl, by omega⟩
  obtain ⟨hi, eh, hh⟩ : ∃ x : Nat, (x : Int) = 0 ∧ x < 18446744073709551616 := ⟨0, rfl, by omega⟩
  obtain ⟨n, en, hn⟩ : ∃ x : Nat, (x : Int) = 9 ∧ x < 18446744073709551616 := ⟨9, rfl, by omega⟩
  obtain ⟨op, eo⟩ : ∃ x : UInt8, (x.toNat : Int) = 7 := ⟨7, rfl⟩
  obtain ⟨id, ei⟩ : ∃ x : UInt16, (x.toNat : Int) = 300 := ⟨300, rfl⟩
  obtain ⟨z8, e8⟩ : ∃ x : UInt8, (x.toNat : Int) = 0 := ⟨0, rfl⟩
  obtain ⟨z16, e16⟩ : ∃ x : UInt16, (x.toNat : Int) = 0 := ⟨0, rfl⟩
  obtain ⟨z32, e32⟩ : ∃ x : UInt32, (x.toNat : Int) = 0 := ⟨0, rfl⟩
  obtain ⟨B, hB0⟩ : ∃ B, B = sgn lo hi (ob n op id z8 z32 z16 z8 z8) := ⟨_, rfl⟩
  have H1 : ∀ W, Hid (Calls Try.prog 16 #[.agg #[.int .u64 1, .int .u64 0], .agg #[.int .u64 9, .int .i64 7, .int .i64 300, .int .i64 0, .int .u32 0, .int .u16 0, .int .u8 0, .int .i64 0]] W fun e w' => ∃ L A c, e = .returned (.tuple #[.slice A L.length c, .int .i64 0]) ∧ Hid (L = B) ∧ Rd bv w' w'.heap.size A c L ∧ Below W.heap.size W w') := by
    intro W
    have h := put_ok lo hi hl hh n hn op id z8 z32 z16 z8 z8 W
    simp only [el, eh, en, eo, ei, e8, e16, e32] at h
    rw [← hB0] at h
    exact h
  have H2 : ∀ A c (L : List UInt8) W, L = B → Rd bv W W.heap.size A c L → Hid (Calls Try.prog 18 #[.agg #[.int .u64 1, .int .u64 0], .slice A L.length c] W fun e w' => e = .returned (.tuple #[.agg #[.int .u64 9, .int .i64 7, .int .i64 300, .int .i64 0, .int .u32 0, .int .u16 0, .int .u8 0, .int .i64 0], .int .i64 0]) ∧ Below W.heap.size W w') := by
    intro A c L W hL hr
    have h := parse_put lo hi hl hh n hn op id z8 z32 z16 z8 z8 L (by rw [hL, hB0]) A c W hr
    simp only [el, eh, en, eo, ei, e8, e16, e32] at h
    exact h
  have HB : ∀ L : List UInt8, L = B → L.length = 28 := fun L h => by rw [h, hB0, sgn_len, ob_len]
  clear hB0 el eh en eo ei e8 e16 e32 hl hh hn
  go_enter Try.func19, Try.ntmps19
  go_wp2_with fail
  refine (H1 _).out.mono ?_
  rintro e w1 ⟨L, A, c, rfl, HL, r, hb⟩
  have hB := bnext (Below.refl w.heap.size w) hb
  clear hb H1
  go_wp2_with fail
  refine (H2 _ _ L _ HL.out r).out.mono ?_
  rintro e w2 ⟨rfl, hb⟩
  replace hB := bnext hB hb
  have hl28 := HB L HL.out
  clear hb H2 r
  go_wp2_with fail
  go_ret
  exact ⟨rfl, bnextA hB _⟩
end Go.Proofs.Ytggcomociojfoaa
