/- A walk of the statements on package arp. -/
import Derived.Test.YtiokofpmmlbncabLaw05
namespace Go.Proofs.Ytiokofpmmlbncab
open Go.RowKit

set_option maxHeartbeats 8000000 in
set_option maxRecDepth 10000 in
theorem ArpParses_0 (a0 : Option Addr) (len0 cap0 : Nat) (xs : List UInt8) (w : World) (ha : Rd bv w w.heap.size a0 cap0 xs) (HFa : Hid (Calls Try.prog 14 #[.slice a0 len0 cap0, .int .i64 (300 : Nat)] w fun e w' => e = .returned (.slice a0 xs.length cap0) ∧ w = w'))
    (o : UInt16) (m0 m1 m2 m3 m4 m5 : UInt8) (s : UInt32) (n0 n1 n2 n3 n4 n5 : UInt8) (d : UInt32) (P1 : ∀ W, Rd bv W W.heap.size a0 cap0 xs → Hid (Calls Try.prog 23 #[.slice a0 xs.length cap0] W fun e w' => e = .returned (.tuple #[.agg #[.int .u16 (o.toNat : Int), .int .u8 (m0.toNat : Int), .int .u8 (m1.toNat : Int), .int .u8 (m2.toNat : Int), .int .u8 (m3.toNat : Int), .int .u8 (m4.toNat : Int), .int .u8 (m5.toNat : Int), .int .u32 (s.toNat : Int), .int .u8 (n0.toNat : Int), .int .u8 (n1.toNat : Int), .int .u8 (n2.toNat : Int), .int .u8 (n3.toNat : Int), .int .u8 (n4.toNat : Int), .int .u8 (n5.toNat : Int), .int .u32 (d.toNat : Int)], .int .i64 0]) ∧ Below W.heap.size W w')) (P2 : ∀ W, Rd bv W W.heap.size a0 cap0 xs → Hid (Calls Try.prog 24 #[.slice a0 xs.length cap0] W fun e w' => e = .returned (.tuple #[.agg #[.int .u16 (o.toNat : Int), .int .u8 (m0.toNat : Int), .int .u8 (m1.toNat : Int), .int .u8 (m2.toNat : Int), .int .u8 (m3.toNat : Int), .int .u8 (m4.toNat : Int), .int .u8 (m5.toNat : Int), .int .u32 (s.toNat : Int), .int .u8 (n0.toNat : Int), .int .u8 (n1.toNat : Int), .int .u8 (n2.toNat : Int), .int .u8 (n3.toNat : Int), .int .u8 (n4.toNat : Int), .int .u8 (n5.toNat : Int), .int .u32 (d.toNat : Int)], .int .i64 0]) ∧ Below W.heap.size W w')) (b28 : List UInt8) (hb28 : xs.take 28 = b28) (l28 : b28.length = 28) (hby : Hid (arpB o m0 m1 m2 m3 m4 m5 s n0 n1 n2 n3 n4 n5 d = b28)) (hc28 : (28 : Int) ≤ (cap0 : Int)) :
    Calls Try.prog 5 #[.slice a0 len0 cap0] w fun e w' => e = .returned (.bool true) ∧ Below w.heap.size w w' := by
  go_enter Try.func5, Try.ntmps5
  have hB := Below.refl w.heap.size w
  go_wp2_with fail
  refine HFa.out.mono ?_
  rintro e w_1 ⟨rfl, rfl⟩
  go_wp2_with fail
  refine (P1 _ ha).out.mono ?_
  rintro e w_2 ⟨rfl, hb⟩
  replace hB := bnextA (bnext hB hb) (.cells #[.int .u16 (o.toNat : Int), .int .u8 (m0.toNat : Int), .int .u8 (m1.toNat : Int), .int .u8 (m2.toNat : Int), .int .u8 (m3.toNat : Int), .int .u8 (m4.toNat : Int), .int .u8 (m5.toNat : Int), .int .u32 (s.toNat : Int), .int .u8 (n0.toNat : Int), .int .u8 (n1.toNat : Int), .int .u8 (n2.toNat : Int), .int .u8 (n3.toNat : Int), .int .u8 (n4.toNat : Int), .int .u8 (n5.toNat : Int), .int .u32 (d.toNat : Int)] 47)
  replace ha := (ha.next hb).nextA (.cells #[.int .u16 (o.toNat : Int), .int .u8 (m0.toNat : Int), .int .u8 (m1.toNat : Int), .int .u8 (m2.toNat : Int), .int .u8 (m3.toNat : Int), .int .u8 (m4.toNat : Int), .int .u8 (m5.toNat : Int), .int .u32 (s.toNat : Int), .int .u8 (n0.toNat : Int), .int .u8 (n1.toNat : Int), .int .u8 (n2.toNat : Int), .int .u8 (n3.toNat : Int), .int .u8 (n4.toNat : Int), .int .u8 (n5.toNat : Int), .int .u32 (d.toNat : Int)] 47)
  have K3 := Blk.new w_2 #[.int .u16 (o.toNat : Int), .int .u8 (m0.toNat : Int), .int .u8 (m1.toNat : Int), .int .u8 (m2.toNat : Int), .int .u8 (m3.toNat : Int), .int .u8 (m4.toNat : Int), .int .u8 (m5.toNat : Int), .int .u32 (s.toNat : Int), .int .u8 (n0.toNat : Int), .int .u8 (n1.toNat : Int), .int .u8 (n2.toNat : Int), .int .u8 (n3.toNat : Int), .int .u8 (n4.toNat : Int), .int .u8 (n5.toNat : Int), .int .u32 (d.toNat : Int)] 47
  clear hb P1
  go_wp2_with fail
  refine (P2 _ ha).out.mono ?_
  rintro e w_3 ⟨rfl, hb⟩
  replace hB := bnextA (bnext hB hb) (.cells #[.int .u16 (o.toNat : Int), .int .u8 (m0.toNat : Int), .int .u8 (m1.toNat : Int), .int .u8 (m2.toNat : Int), .int .u8 (m3.toNat : Int), .int .u8 (m4.toNat : Int), .int .u8 (m5.toNat : Int), .int .u32 (s.toNat : Int), .int .u8 (n0.toNat : Int), .int .u8 (n1.toNat : Int), .int .u8 (n2.toNat : Int), .int .u8 (n3.toNat : Int), .int .u8 (n4.toNat : Int), .int .u8 (n5.toNat : Int), .int .u32 (d.toNat : Int)] 47)
  replace ha := (ha.next hb).nextA (.cells #[.int .u16 (o.toNat : Int), .int .u8 (m0.toNat : Int), .int .u8 (m1.toNat : Int), .int .u8 (m2.toNat : Int), .int .u8 (m3.toNat : Int), .int .u8 (m4.toNat : Int), .int .u8 (m5.toNat : Int), .int .u32 (s.toNat : Int), .int .u8 (n0.toNat : Int), .int .u8 (n1.toNat : Int), .int .u8 (n2.toNat : Int), .int .u8 (n3.toNat : Int), .int .u8 (n4.toNat : Int), .int .u8 (n5.toNat : Int), .int .u32 (d.toNat : Int)] 47)
  replace K3 := (K3.next hb).alloc (.cells #[.int .u16 (o.toNat : Int), .int .u8 (m0.toNat : Int), .int .u8 (m1.toNat : Int), .int .u8 (m2.toNat : Int), .int .u8 (m3.toNat : Int), .int .u8 (m4.toNat : Int), .int .u8 (m5.toNat : Int), .int .u32 (s.toNat : Int), .int .u8 (n0.toNat : Int), .int .u8 (n1.toNat : Int), .int .u8 (n2.toNat : Int), .int .u8 (n3.toNat : Int), .int .u8 (n4.toNat : Int), .int .u8 (n5.toNat : Int), .int .u32 (d.toNat : Int)] 47)
  have K5 := Blk.new w_3 #[.int .u16 (o.toNat : Int), .int .u8 (m0.toNat : Int), .int .u8 (m1.toNat : Int), .int .u8 (m2.toNat : Int), .int .u8 (m3.toNat : Int), .int .u8 (m4.toNat : Int), .int .u8 (m5.toNat : Int), .int .u32 (s.toNat : Int), .int .u8 (n0.toNat : Int), .int .u8 (n1.toNat : Int), .int .u8 (n2.toNat : Int), .int .u8 (n3.toNat : Int), .int .u8 (n4.toNat : Int), .int .u8 (n5.toNat : Int), .int .u32 (d.toNat : Int)] 47
  clear hb P2
  go_wp2_with fail
  generalize w_3.alloc (.cells #[.int .u16 (o.toNat : Int), .int .u8 (m0.toNat : Int), .int .u8 (m1.toNat : Int), .int .u8 (m2.toNat : Int), .int .u8 (m3.toNat : Int), .int .u8 (m4.toNat : Int), .int .u8 (m5.toNat : Int), .int .u32 (s.toNat : Int), .int .u8 (n0.toNat : Int), .int .u8 (n1.toNat : Int), .int .u8 (n2.toNat : Int), .int .u8 (n3.toNat : Int), .int .u8 (n4.toNat : Int), .int .u8 (n5.toNat : Int), .int .u32 (d.toNat : Int)] 47) = V at *
  generalize w_2.heap.size = g3 at *
  generalize w_3.heap.size = g5 at *
  have HS : ∀ W, Below V.heap.size V W → (W.cell? ⟨g3, 0, none⟩ = some (.int .u16 (o.toNat : Int)) ∧ W.cell? ⟨g3, 1, none⟩ = some (.int .u8 (m0.toNat : Int)) ∧ W.cell? ⟨g3, 2, none⟩ = some (.int .u8 (m1.toNat : Int)) ∧ W.cell? ⟨g3, 3, none⟩ = some (.int .u8 (m2.toNat : Int)) ∧ W.cell? ⟨g3, 4, none⟩ = some (.int .u8 (m3.toNat : Int)) ∧ W.cell? ⟨g3, 5, none⟩ = some (.int .u8 (m4.toNat : Int)) ∧ W.cell? ⟨g3, 6, none⟩ = some (.int .u8 (m5.toNat : Int)) ∧ W.cell? ⟨g3, 7, none⟩ = some (.int .u32 (s.toNat : Int)) ∧ W.cell? ⟨g3, 8, none⟩ = some (.int .u8 (n0.toNat : Int)) ∧ W.cell? ⟨g3, 9, none⟩ = some (.int .u8 (n1.toNat : Int)) ∧ W.cell? ⟨g3, 10, none⟩ = some (.int .u8 (n2.toNat : Int)) ∧ W.cell? ⟨g3, 11, none⟩ = some (.int .u8 (n3.toNat : Int)) ∧ W.cell? ⟨g3, 12, none⟩ = some (.int .u8 (n4.toNat : Int)) ∧ W.cell? ⟨g3, 13, none⟩ = some (.int .u8 (n5.toNat : Int)) ∧ W.cell? ⟨g3, 14, none⟩ = some (.int .u32 (d.toNat : Int)) ∧ W.cell? ⟨g5, 0, none⟩ = some (.int .u16 (o.toNat : Int)) ∧ W.cell? ⟨g5, 1, none⟩ = some (.int .u8 (m0.toNat : Int)) ∧ W.cell? ⟨g5, 2, none⟩ = some (.int .u8 (m1.toNat : Int)) ∧ W.cell? ⟨g5, 3, none⟩ = some (.int .u8 (m2.toNat : Int)) ∧ W.cell? ⟨g5, 4, none⟩ = some (.int .u8 (m3.toNat : Int)) ∧ W.cell? ⟨g5, 5, none⟩ = some (.int .u8 (m4.toNat : Int)) ∧ W.cell? ⟨g5, 6, none⟩ = some (.int .u8 (m5.toNat : Int)) ∧ W.cell? ⟨g5, 7, none⟩ = some (.int .u32 (s.toNat : Int)) ∧ W.cell? ⟨g5, 8, none⟩ = some (.int .u8 (n0.toNat : Int)) ∧ W.cell? ⟨g5, 9, none⟩ = some (.int .u8 (n1.toNat : Int)) ∧ W.cell? ⟨g5, 10, none⟩ = some (.int .u8 (n2.toNat : Int)) ∧ W.cell? ⟨g5, 11, none⟩ = some (.int .u8 (n3.toNat : Int)) ∧ W.cell? ⟨g5, 12, none⟩ = some (.int .u8 (n4.toNat : Int)) ∧ W.cell? ⟨g5, 13, none⟩ = some (.int .u8 (n5.toNat : Int)) ∧ W.cell? ⟨g5, 14, none⟩ = some (.int .u32 (d.toNat : Int))) := by
    intro W h
    obtain ⟨p0, p1, p2, p3, p4, p5, p6, p7, p8, p9, p10, p11, p12, p13, p14, -⟩ := (K3.next h).get15
    obtain ⟨q0, q1, q2, q3, q4, q5, q6, q7, q8, q9, q10, q11, q12, q13, q14, -⟩ := (K5.next h).get15
    exact ⟨p0, p1, p2, p3, p4, p5, p6, p7, p8, p9, p10, p11, p12, p13, p14, q0, q1, q2, q3, q4, q5, q6, q7, q8, q9, q10, q11, q12, q13, q14⟩
  have r28 := ha.take 28
  rw [hb28] at r28
  refine region_put (by kernel_rfl) (by kernel_rfl) (by kernel_rfl) 41 rfl (by kernel_rfl) V (fun i v W => match i with
      | 0 => v = .agg #[.int .u16 (o.toNat : Int), .int .u8 (m0.toNat : Int), .int .u8 (m1.toNat : Int), .int .u8 (m2.toNat : Int), .int .u8 (m3.toNat : Int), .int .u8 (m4.toNat : Int), .int .u8 (m5.toNat : Int), .int .u32 (s.toNat : Int), .int .u8 (n0.toNat : Int), .int .u8 (n1.toNat : Int), .int .u8 (n2.toNat : Int), .int .u8 (n3.toNat : Int), .int .u8 (n4.toNat : Int), .int .u8 (n5.toNat : Int), .int .u32 (d.toNat : Int)]
      | 1 => v = .agg #[.int .u16 (o.toNat : Int), .int .u8 (m0.toNat : Int), .int .u8 (m1.toNat : Int), .int .u8 (m2.toNat : Int), .int .u8 (m3.toNat : Int), .int .u8 (m4.toNat : Int), .int .u8 (m5.toNat : Int), .int .u32 (s.toNat : Int), .int .u8 (n0.toNat : Int), .int .u8 (n1.toNat : Int), .int .u8 (n2.toNat : Int), .int .u8 (n3.toNat : Int), .int .u8 (n4.toNat : Int), .int .u8 (n5.toNat : Int), .int .u32 (d.toNat : Int)]
      | 2 => v = .bool true
      | 3 => v = .bool true
      | 4 => v = .int .i64 0
      | 5 => v = .int .i64 0
      | 6 => v = .bool true
      | 7 => v = .bool true
      | 8 => v = .bool true
      | 9 => v = .int .i64 0
      | 10 => v = .bool false
      | 11 => v = .bool false
      | 12 => v = .agg #[.int .u16 (o.toNat : Int), .int .u8 (m0.toNat : Int), .int .u8 (m1.toNat : Int), .int .u8 (m2.toNat : Int), .int .u8 (m3.toNat : Int), .int .u8 (m4.toNat : Int), .int .u8 (m5.toNat : Int), .int .u32 (s.toNat : Int), .int .u8 (n0.toNat : Int), .int .u8 (n1.toNat : Int), .int .u8 (n2.toNat : Int), .int .u8 (n3.toNat : Int), .int .u8 (n4.toNat : Int), .int .u8 (n5.toNat : Int), .int .u32 (d.toNat : Int)]
      | 13 => ∃ L A c, v = .slice A L.length c ∧ Hid (L = arpB o m0 m1 m2 m3 m4 m5 s n0 n1 n2 n3 n4 n5 d) ∧ Rd bv W W.heap.size A c L
      | 14 => v = .slice a0 xs.length cap0
      | 15 => ∃ L A c, v = .slice A L.length c ∧ Hid (L = b28) ∧ Rd bv W W.heap.size A c L
      | 16 => v = .bool true
      | 17 => v = .bool true
      | 18 => v = .bool true
      | 19 => v = .bool true
      | 20 => v = .bool true
      | 21 => v = .bool true
      | 22 => v = .bool true
      | _ => True) (Below.refl _ _) ?_ ?_ ?_
  · intro i v W W' h hb
    match i, h with
    | 0, h => exact h
    | 1, h => exact h
    | 2, h => exact h
    | 3, h => exact h
    | 4, h => exact h
    | 5, h => exact h
    | 6, h => exact h
    | 7, h => exact h
    | 8, h => exact h
    | 9, h => exact h
    | 10, h => exact h
    | 11, h => exact h
    | 12, h => exact h
    | 13, h => obtain ⟨L, A, c, h1, h2, h3⟩ := h; exact ⟨L, A, c, h1, h2, h3.next hb⟩
    | 14, h => exact h
    | 15, h => obtain ⟨L, A, c, h1, h2, h3⟩ := h; exact ⟨L, A, c, h1, h2, h3.next hb⟩
    | 16, h => exact h
    | 17, h => exact h
    | 18, h => exact h
    | 19, h => exact h
    | 20, h => exact h
    | 21, h => exact h
    | 22, h => exact h
    | _ + 23, _ => trivial
  · intro i o uu W hoo hVW hd
    rcases i with _|_|_|_|_|_|_|_|_|_|_|_|_|_|_|_|_|_|_|_|_|_|_|i
    · obtain rfl := Option.some.inj hoo
      refine .inl ⟨wanted_none rfl, ?_⟩
      generalize hev : Act.eval _ = ev
      have ec : ∀ c, ev (.const c) = c := fun c => by rw [← hev]; rfl
      have e3 : ev (.tmp 3) = .pointer (some ⟨g3, 0, none⟩) := by rw [← hev]; exact eval_old (by kernel_rfl) 41 rfl (by decide) rfl
      clear hev hd
      obtain ⟨cc0, cc1, cc2, cc3, cc4, cc5, cc6, cc7, cc8, cc9, cc10, cc11, cc12, cc13, cc14, cc15, cc16, cc17, cc18, cc19, cc20, cc21, cc22, cc23, cc24, cc25, cc26, cc27, cc28, cc29⟩ := HS W hVW
      exact .inl ⟨_, W, by go_simp, rfl, Below.refl _ _⟩
    · obtain rfl := Option.some.inj hoo
      refine .inl ⟨wanted_none rfl, ?_⟩
      generalize hev : Act.eval _ = ev
      have ec : ∀ c, ev (.const c) = c := fun c => by rw [← hev]; rfl
      have e5 : ev (.tmp 5) = .pointer (some ⟨g5, 0, none⟩) := by rw [← hev]; exact eval_old (by kernel_rfl) 41 rfl (by decide) rfl
      clear hev hd
      obtain ⟨cc0, cc1, cc2, cc3, cc4, cc5, cc6, cc7, cc8, cc9, cc10, cc11, cc12, cc13, cc14, cc15, cc16, cc17, cc18, cc19, cc20, cc21, cc22, cc23, cc24, cc25, cc26, cc27, cc28, cc29⟩ := HS W hVW
      exact .inl ⟨_, W, by go_simp, rfl, Below.refl _ _⟩
    · obtain rfl := Option.some.inj hoo
      have q0 : uu 0 = .agg #[.int .u16 (o.toNat : Int), .int .u8 (m0.toNat : Int), .int .u8 (m1.toNat : Int), .int .u8 (m2.toNat : Int), .int .u8 (m3.toNat : Int), .int .u8 (m4.toNat : Int), .int .u8 (m5.toNat : Int), .int .u32 (s.toNat : Int), .int .u8 (n0.toNat : Int), .int .u8 (n1.toNat : Int), .int .u8 (n2.toNat : Int), .int .u8 (n3.toNat : Int), .int .u8 (n4.toNat : Int), .int .u8 (n5.toNat : Int), .int .u32 (d.toNat : Int)] := hd 0 (by kernel_rfl)
      have q1 : uu 1 = .agg #[.int .u16 (o.toNat : Int), .int .u8 (m0.toNat : Int), .int .u8 (m1.toNat : Int), .int .u8 (m2.toNat : Int), .int .u8 (m3.toNat : Int), .int .u8 (m4.toNat : Int), .int .u8 (m5.toNat : Int), .int .u32 (s.toNat : Int), .int .u8 (n0.toNat : Int), .int .u8 (n1.toNat : Int), .int .u8 (n2.toNat : Int), .int .u8 (n3.toNat : Int), .int .u8 (n4.toNat : Int), .int .u8 (n5.toNat : Int), .int .u32 (d.toNat : Int)] := hd 1 (by kernel_rfl)
      refine .inl ⟨wanted_none rfl, ?_⟩
      generalize hev : Act.eval _ = ev
      have ec : ∀ c, ev (.const c) = c := fun c => by rw [← hev]; rfl
      have e19 : ev (.tmp 19) = .agg #[.int .u16 (o.toNat : Int), .int .u8 (m0.toNat : Int), .int .u8 (m1.toNat : Int), .int .u8 (m2.toNat : Int), .int .u8 (m3.toNat : Int), .int .u8 (m4.toNat : Int), .int .u8 (m5.toNat : Int), .int .u32 (s.toNat : Int), .int .u8 (n0.toNat : Int), .int .u8 (n1.toNat : Int), .int .u8 (n2.toNat : Int), .int .u8 (n3.toNat : Int), .int .u8 (n4.toNat : Int), .int .u8 (n5.toNat : Int), .int .u32 (d.toNat : Int)] := by rw [← hev]; exact (eval_put (by kernel_rfl) 41 rfl (by decide)).trans q0
      have e20 : ev (.tmp 20) = .agg #[.int .u16 (o.toNat : Int), .int .u8 (m0.toNat : Int), .int .u8 (m1.toNat : Int), .int .u8 (m2.toNat : Int), .int .u8 (m3.toNat : Int), .int .u8 (m4.toNat : Int), .int .u8 (m5.toNat : Int), .int .u32 (s.toNat : Int), .int .u8 (n0.toNat : Int), .int .u8 (n1.toNat : Int), .int .u8 (n2.toNat : Int), .int .u8 (n3.toNat : Int), .int .u8 (n4.toNat : Int), .int .u8 (n5.toNat : Int), .int .u32 (d.toNat : Int)] := by rw [← hev]; exact (eval_put (by kernel_rfl) 41 rfl (by decide)).trans q1
      clear hev hd q0 q1
      exact .inl ⟨_, W, by go_simp, rfl, Below.refl _ _⟩
    · obtain rfl := Option.some.inj hoo
      have q2 : uu 2 = .bool true := hd 2 (by kernel_rfl)
      refine .inl ⟨wanted_none rfl, ?_⟩
      generalize hev : Act.eval _ = ev
      have ec : ∀ c, ev (.const c) = c := fun c => by rw [← hev]; rfl
      have e21 : ev (.tmp 21) = .bool true := by rw [← hev]; exact (eval_put (by kernel_rfl) 41 rfl (by decide)).trans q2
      clear hev hd q2
      exact .inl ⟨_, W, by go_simp, rfl, Below.refl _ _⟩
    · obtain rfl := Option.some.inj hoo
      have q3 : uu 3 = .bool true := hd 3 (by kernel_rfl)
      refine .inl ⟨wanted_yes rfl (yielded_put (k := 22) (by kernel_rfl) (by kernel_rfl) 41 rfl (by decide) q3), ?_⟩
      generalize hev : Act.eval _ = ev
      have ec : ∀ c, ev (.const c) = c := fun c => by rw [← hev]; rfl
      have e4 : ev (.tmp 4) = .int .i64 0 := by rw [← hev]; exact eval_old (by kernel_rfl) 41 rfl (by decide) rfl
      clear hev hd q3
      exact .inl ⟨_, W, by go_simp, rfl, Below.refl _ _⟩
    · obtain rfl := Option.some.inj hoo
      have q3 : uu 3 = .bool true := hd 3 (by kernel_rfl)
      refine .inl ⟨wanted_yes rfl (yielded_put (k := 22) (by kernel_rfl) (by kernel_rfl) 41 rfl (by decide) q3), ?_⟩
      generalize hev : Act.eval _ = ev
      have ec : ∀ c, ev (.const c) = c := fun c => by rw [← hev]; rfl
      have e6 : ev (.tmp 6) = .int .i64 0 := by rw [← hev]; exact eval_old (by kernel_rfl) 41 rfl (by decide) rfl
      clear hev hd q3
      exact .inl ⟨_, W, by go_simp, rfl, Below.refl _ _⟩
    · obtain rfl := Option.some.inj hoo
      have q4 : uu 4 = .int .i64 0 := hd 4 (by kernel_rfl)
      have q5 : uu 5 = .int .i64 0 := hd 5 (by kernel_rfl)
      have q3 : uu 3 = .bool true := hd 3 (by kernel_rfl)
      refine .inl ⟨wanted_yes rfl (yielded_put (k := 22) (by kernel_rfl) (by kernel_rfl) 41 rfl (by decide) q3), ?_⟩
      generalize hev : Act.eval _ = ev
      have ec : ∀ c, ev (.const c) = c := fun c => by rw [← hev]; rfl
      have e23 : ev (.tmp 23) = .int .i64 0 := by rw [← hev]; exact (eval_put (by kernel_rfl) 41 rfl (by decide)).trans q4
      have e24 : ev (.tmp 24) = .int .i64 0 := by rw [← hev]; exact (eval_put (by kernel_rfl) 41 rfl (by decide)).trans q5
      clear hev hd q4 q5 q3
      exact .inl ⟨_, W, by go_simp, rfl, Below.refl _ _⟩
    · obtain rfl := Option.some.inj hoo
      have q3 : uu 3 = .bool true := hd 3 (by kernel_rfl)
      have q6 : uu 6 = .bool true := hd 6 (by kernel_rfl)
      refine .inl ⟨wanted_none rfl, ?_⟩
      generalize hev : Act.eval _ = ev
      have ec : ∀ c, ev (.const c) = c := fun c => by rw [← hev]; rfl
      have e22 : ev (.tmp 22) = .bool true := by rw [← hev]; exact (eval_put (by kernel_rfl) 41 rfl (by decide)).trans q3
      have e25 : ev (.tmp 25) = .bool true := by rw [← hev]; exact (eval_put (by kernel_rfl) 41 rfl (by decide)).trans q6
      clear hev hd q3 q6
      exact .inl ⟨_, W, by go_simp, rfl, Below.refl _ _⟩
    · obtain rfl := Option.some.inj hoo
      have q7 : uu 7 = .bool true := hd 7 (by kernel_rfl)
      refine .inl ⟨wanted_none rfl, ?_⟩
      generalize hev : Act.eval _ = ev
      have ec : ∀ c, ev (.const c) = c := fun c => by rw [← hev]; rfl
      have e26 : ev (.tmp 26) = .bool true := by rw [← hev]; exact (eval_put (by kernel_rfl) 41 rfl (by decide)).trans q7
      clear hev hd q7
      exact .inl ⟨_, W, by go_simp, rfl, Below.refl _ _⟩
    · obtain rfl := Option.some.inj hoo
      have q8 : uu 8 = .bool true := hd 8 (by kernel_rfl)
      refine .inl ⟨wanted_yes rfl (yielded_put (k := 27) (by kernel_rfl) (by kernel_rfl) 41 rfl (by decide) q8), ?_⟩
      generalize hev : Act.eval _ = ev
      have ec : ∀ c, ev (.const c) = c := fun c => by rw [← hev]; rfl
      have e4 : ev (.tmp 4) = .int .i64 0 := by rw [← hev]; exact eval_old (by kernel_rfl) 41 rfl (by decide) rfl
      clear hev hd q8
      exact .inl ⟨_, W, by go_simp, rfl, Below.refl _ _⟩
    · obtain rfl := Option.some.inj hoo
      have q9 : uu 9 = .int .i64 0 := hd 9 (by kernel_rfl)
      have q8 : uu 8 = .bool true := hd 8 (by kernel_rfl)
      refine .inl ⟨wanted_yes rfl (yielded_put (k := 27) (by kernel_rfl) (by kernel_rfl) 41 rfl (by decide) q8), ?_⟩
      generalize hev : Act.eval _ = ev
      have ec : ∀ c, ev (.const c) = c := fun c => by rw [← hev]; rfl
      have e28 : ev (.tmp 28) = .int .i64 0 := by rw [← hev]; exact (eval_put (by kernel_rfl) 41 rfl (by decide)).trans q9
      clear hev hd q9 q8
      exact .inl ⟨_, W, by go_simp, rfl, Below.refl _ _⟩
    · obtain rfl := Option.some.inj hoo
      have q10 : uu 10 = .bool false := hd 10 (by kernel_rfl)
      have q8 : uu 8 = .bool true := hd 8 (by kernel_rfl)
      refine .inl ⟨wanted_yes rfl (yielded_put (k := 27) (by kernel_rfl) (by kernel_rfl) 41 rfl (by decide) q8), ?_⟩
      generalize hev : Act.eval _ = ev
      have ec : ∀ c, ev (.const c) = c := fun c => by rw [← hev]; rfl
      have e29 : ev (.tmp 29) = .bool false := by rw [← hev]; exact (eval_put (by kernel_rfl) 41 rfl (by decide)).trans q10
      clear hev hd q10 q8
      exact .inl ⟨_, W, by go_simp, rfl, Below.refl _ _⟩
    · obtain rfl := Option.some.inj hoo
      have q11 : uu 11 = .bool false := hd 11 (by kernel_rfl)
      refine .inl ⟨wanted_yes rfl (yielded_put (k := 30) (by kernel_rfl) (by kernel_rfl) 41 rfl (by decide) q11), ?_⟩
      generalize hev : Act.eval _ = ev
      have ec : ∀ c, ev (.const c) = c := fun c => by rw [← hev]; rfl
      have e3 : ev (.tmp 3) = .pointer (some ⟨g3, 0, none⟩) := by rw [← hev]; exact eval_old (by kernel_rfl) 41 rfl (by decide) rfl
      clear hev hd q11
      obtain ⟨cc0, cc1, cc2, cc3, cc4, cc5, cc6, cc7, cc8, cc9, cc10, cc11, cc12, cc13, cc14, cc15, cc16, cc17, cc18, cc19, cc20, cc21, cc22, cc23, cc24, cc25, cc26, cc27, cc28, cc29⟩ := HS W hVW
      exact .inl ⟨_, W, by go_simp, rfl, Below.refl _ _⟩
    · obtain rfl := Option.some.inj hoo
      have q12 : uu 12 = .agg #[.int .u16 (o.toNat : Int), .int .u8 (m0.toNat : Int), .int .u8 (m1.toNat : Int), .int .u8 (m2.toNat : Int), .int .u8 (m3.toNat : Int), .int .u8 (m4.toNat : Int), .int .u8 (m5.toNat : Int), .int .u32 (s.toNat : Int), .int .u8 (n0.toNat : Int), .int .u8 (n1.toNat : Int), .int .u8 (n2.toNat : Int), .int .u8 (n3.toNat : Int), .int .u8 (n4.toNat : Int), .int .u8 (n5.toNat : Int), .int .u32 (d.toNat : Int)] := hd 12 (by kernel_rfl)
      have q11 : uu 11 = .bool false := hd 11 (by kernel_rfl)
      refine .inl ⟨wanted_yes rfl (yielded_put (k := 30) (by kernel_rfl) (by kernel_rfl) 41 rfl (by decide) q11), ?_⟩
      generalize hev : Act.eval _ = ev
      have ec : ∀ c, ev (.const c) = c := fun c => by rw [← hev]; rfl
      have ef : ∀ f, ev (.func f) = .func (.func f) #[] #[] := fun f => by rw [← hev]; rfl
      have e31 : ev (.tmp 31) = .agg #[.int .u16 (o.toNat : Int), .int .u8 (m0.toNat : Int), .int .u8 (m1.toNat : Int), .int .u8 (m2.toNat : Int), .int .u8 (m3.toNat : Int), .int .u8 (m4.toNat : Int), .int .u8 (m5.toNat : Int), .int .u32 (s.toNat : Int), .int .u8 (n0.toNat : Int), .int .u8 (n1.toNat : Int), .int .u8 (n2.toNat : Int), .int .u8 (n3.toNat : Int), .int .u8 (n4.toNat : Int), .int .u8 (n5.toNat : Int), .int .u32 (d.toNat : Int)] := by rw [← hev]; exact (eval_put (by kernel_rfl) 41 rfl (by decide)).trans q12
      clear hev hd q12 q11
      exact .inr ⟨_, _, _, by go_simp, aput_any o m0 m1 m2 m3 m4 m5 s n0 n1 n2 n3 n4 n5 d W, fun e w' he => by
        obtain ⟨L, A, c, rfl, HL, hr, hb⟩ := he
        exact ⟨_, rfl, ⟨L, A, c, rfl, HL, hr⟩, hb⟩⟩
    · obtain rfl := Option.some.inj hoo
      have q11 : uu 11 = .bool false := hd 11 (by kernel_rfl)
      refine .inl ⟨wanted_yes rfl (yielded_put (k := 30) (by kernel_rfl) (by kernel_rfl) 41 rfl (by decide) q11), ?_⟩
      generalize hev : Act.eval _ = ev
      have ec : ∀ c, ev (.const c) = c := fun c => by rw [← hev]; rfl
      have e0 : ev (.tmp 0) = .slice a0 xs.length cap0 := by rw [← hev]; exact eval_old (by kernel_rfl) 41 rfl (by decide) rfl
      clear hev hd q11
      exact .inl ⟨_, W, by go_simp, rfl, Below.refl _ _⟩
    · obtain rfl := Option.some.inj hoo
      have q14 : uu 14 = .slice a0 xs.length cap0 := hd 14 (by kernel_rfl)
      have q11 : uu 11 = .bool false := hd 11 (by kernel_rfl)
      refine .inl ⟨wanted_yes rfl (yielded_put (k := 30) (by kernel_rfl) (by kernel_rfl) 41 rfl (by decide) q11), ?_⟩
      generalize hev : Act.eval _ = ev
      have ec : ∀ c, ev (.const c) = c := fun c => by rw [← hev]; rfl
      have e33 : ev (.tmp 33) = .slice a0 xs.length cap0 := by rw [← hev]; exact (eval_put (by kernel_rfl) 41 rfl (by decide)).trans q14
      clear hev hd q14 q11
      exact .inl ⟨.slice a0 28 cap0, W, by go_simp, ⟨b28, a0, cap0, by rw [l28], rfl, r28.next hVW⟩, Below.refl _ _⟩
    · obtain rfl := Option.some.inj hoo
      obtain ⟨L13, A13, c13, q13, HL13, r13⟩ := hd 13 (by kernel_rfl)
      obtain ⟨L15, A15, c15, q15, HL15, r15⟩ := hd 15 (by kernel_rfl)
      have q11 : uu 11 = .bool false := hd 11 (by kernel_rfl)
      refine .inl ⟨wanted_yes rfl (yielded_put (k := 30) (by kernel_rfl) (by kernel_rfl) 41 rfl (by decide) q11), ?_⟩
      generalize hev : Act.eval _ = ev
      have ec : ∀ c, ev (.const c) = c := fun c => by rw [← hev]; rfl
      have ef : ∀ f, ev (.func f) = .func (.func f) #[] #[] := fun f => by rw [← hev]; rfl
      have e32 : ev (.tmp 32) = .slice A13 L13.length c13 := by rw [← hev]; exact (eval_put (by kernel_rfl) 41 rfl (by decide)).trans q13
      have e34 : ev (.tmp 34) = .slice A15 L15.length c15 := by rw [← hev]; exact (eval_put (by kernel_rfl) 41 rfl (by decide)).trans q15
      clear hev hd q13 q15 q11
      exact .inr ⟨_, _, _, by go_simp, rsame_eq _ _ _ _ L13 L15 W _ r13 r15 (by rw [HL13.out, HL15.out, hby.out]), fun e w' he => ⟨_, he.1, rfl, he.2.below⟩⟩
    · obtain rfl := Option.some.inj hoo
      have q11 : uu 11 = .bool false := hd 11 (by kernel_rfl)
      have q16 : uu 16 = .bool true := hd 16 (by kernel_rfl)
      have q8 : uu 8 = .bool true := hd 8 (by kernel_rfl)
      refine .inl ⟨wanted_yes rfl (yielded_put (k := 27) (by kernel_rfl) (by kernel_rfl) 41 rfl (by decide) q8), ?_⟩
      generalize hev : Act.eval _ = ev
      have ec : ∀ c, ev (.const c) = c := fun c => by rw [← hev]; rfl
      have e30 : ev (.tmp 30) = .bool false := by rw [← hev]; exact (eval_put (by kernel_rfl) 41 rfl (by decide)).trans q11
      have e35 : ev (.tmp 35) = .bool true := by rw [← hev]; exact (eval_put (by kernel_rfl) 41 rfl (by decide)).trans q16
      clear hev hd q11 q16 q8
      exact .inl ⟨_, W, by go_simp, rfl, Below.refl _ _⟩
    · obtain rfl := Option.some.inj hoo
      have q8 : uu 8 = .bool true := hd 8 (by kernel_rfl)
      have q17 : uu 17 = .bool true := hd 17 (by kernel_rfl)
      refine .inl ⟨wanted_none rfl, ?_⟩
      generalize hev : Act.eval _ = ev
      have ec : ∀ c, ev (.const c) = c := fun c => by rw [← hev]; rfl
      have e27 : ev (.tmp 27) = .bool true := by rw [← hev]; exact (eval_put (by kernel_rfl) 41 rfl (by decide)).trans q8
      have e36 : ev (.tmp 36) = .bool true := by rw [← hev]; exact (eval_put (by kernel_rfl) 41 rfl (by decide)).trans q17
      clear hev hd q8 q17
      exact .inl ⟨_, W, by go_simp, rfl, Below.refl _ _⟩
    · obtain rfl := Option.some.inj hoo
      have q18 : uu 18 = .bool true := hd 18 (by kernel_rfl)
      refine .inl ⟨wanted_none rfl, ?_⟩
      generalize hev : Act.eval _ = ev
      have ec : ∀ c, ev (.const c) = c := fun c => by rw [← hev]; rfl
      have e37 : ev (.tmp 37) = .bool true := by rw [← hev]; exact (eval_put (by kernel_rfl) 41 rfl (by decide)).trans q18
      clear hev hd q18
      exact .inl ⟨_, W, by go_simp, rfl, Below.refl _ _⟩
    · obtain rfl := Option.some.inj hoo
      have q19 : uu 19 = .bool true := hd 19 (by kernel_rfl)
      refine .inl ⟨wanted_yes rfl (yielded_put (k := 38) (by kernel_rfl) (by kernel_rfl) 41 rfl (by decide) q19), ?_⟩
      generalize hev : Act.eval _ = ev
      have ec : ∀ c, ev (.const c) = c := fun c => by rw [← hev]; rfl
      have ef : ∀ f, ev (.func f) = .func (.func f) #[] #[] := fun f => by rw [← hev]; rfl
      clear hev hd q19
      exact .inr ⟨_, _, _, by go_simp, lives05_any W, fun e w' he => ⟨_, he.1, rfl, he.2⟩⟩
    · obtain rfl := Option.some.inj hoo
      have q19 : uu 19 = .bool true := hd 19 (by kernel_rfl)
      have q20 : uu 20 = .bool true := hd 20 (by kernel_rfl)
      refine .inl ⟨wanted_none rfl, ?_⟩
      generalize hev : Act.eval _ = ev
      have ec : ∀ c, ev (.const c) = c := fun c => by rw [← hev]; rfl
      have e38 : ev (.tmp 38) = .bool true := by rw [← hev]; exact (eval_put (by kernel_rfl) 41 rfl (by decide)).trans q19
      have e39 : ev (.tmp 39) = .bool true := by rw [← hev]; exact (eval_put (by kernel_rfl) 41 rfl (by decide)).trans q20
      clear hev hd q19 q20
      exact .inl ⟨_, W, by go_simp, rfl, Below.refl _ _⟩
    · obtain rfl := Option.some.inj hoo
      have q21 : uu 21 = .bool true := hd 21 (by kernel_rfl)
      refine .inl ⟨wanted_none rfl, ?_⟩
      generalize hev : Act.eval _ = ev
      have ec : ∀ c, ev (.const c) = c := fun c => by rw [← hev]; rfl
      have e40 : ev (.tmp 40) = .bool true := by rw [← hev]; exact (eval_put (by kernel_rfl) 41 rfl (by decide)).trans q21
      clear hev hd q21
      exact .inl ⟨_, W, by go_simp, rfl, Below.refl _ _⟩
    · simp at hoo
  · intro uu W hVW hall
    have q22 : uu 22 = .bool true := hall 22 (by decide)
    replace hB := hB.trans (hVW.mono hB.size)
    clear hall HS hVW K3 K5
    simp only [putAll, Act.put, Nat.reduceAdd, q22]
    simp only [List.setIfInBounds_toArray, List.set_cons_succ, List.set_cons_zero]
    go_wp2_with fail
    go_ret
    exact ⟨rfl, hB⟩

end Go.Proofs.Ytiokofpmmlbncab
