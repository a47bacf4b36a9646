/- Contracts of arp.Put and its reference. -/
import Derived.Test.YtiokofpmmlbncabKit3
import Derived.Test.YtiokofpmmlbncabReg3
import Derived.Test.YtiokofpmmlbncabEth2
import Derived.Test.YtiokofpmmlbncabIp2
import Derived.Deep.RegionHeld3
import Derived.BigRegion
namespace Go.Proofs.Ytiokofpmmlbncab
open Go.RowKit

/-- A packet's bytes. -/
def arpB (o : UInt16) (m0 m1 m2 m3 m4 m5 : UInt8) (s : UInt32) (n0 n1 n2 n3 n4 n5 : UInt8) (d : UInt32) : List UInt8 := [0, 1, 8, 0, 6, 4] ++ (be16 o ++ ([m0, m1, m2, m3, m4, m5] ++ (be32 s ++ ([n0, n1, n2, n3, n4, n5] ++ be32 d))))
theorem arpB_len (o : UInt16) (m0 m1 m2 m3 m4 m5 : UInt8) (s : UInt32) (n0 n1 n2 n3 n4 n5 : UInt8) (d : UInt32) : (arpB o m0 m1 m2 m3 m4 m5 s n0 n1 n2 n3 n4 n5 d).length = 28 := by simp [arpB, be16, be32]
theorem akind_any (w : World) : Calls Try.prog 66 #[] w fun e w' => ∃ L A c, e = .returned (.slice A L.length c) ∧ Hid (L = [0, 1, 8, 0, 6, 4]) ∧ Rd bv w' w'.heap.size A c L ∧ Below w.heap.size w w' := by
  obtain ⟨x, ex⟩ : ∃ a : UInt16, a.toNat = 1 := ⟨1, rfl⟩
  obtain ⟨y, ey⟩ : ∃ a : UInt16, a.toNat = 2048 := ⟨2048, rfl⟩
  have r0 := lit16_at w w.heap.size [x, y] rfl #[.int .u16 1, .int .u16 2048] (by simp [hv, ex, ey]) 24 (by simp)
  have hB := bnextA (Below.refl w.heap.size w) (.cells #[.int .u16 1, .int .u16 2048] 24)
  go_enter Try.func66, Try.ntmps66
  go_wp2_with fail
  refine (put16_nil _ 2 [x, y] _ r0 (by simp)).mono ?_
  rintro e w1 ⟨L1, A1, c1, rfl, HL1, r1, hb⟩
  replace hB := bnext hB hb
  have r2 := lit_at w1 w1.heap.size [6, 4] rfl #[.int .u8 6, .int .u8 4] rfl 5 (by simp)
  have hB2 := bnextA hB (.cells #[.int .u8 6, .int .u8 4] 5)
  replace r1 := r1.nextA (.cells #[.int .u8 6, .int .u8 4] 5)
  clear hb hB r0
  go_wp2_with fail
  refine (join_any _ _ _ 2 [L1, [6, 4]] (parts_at _ (by simp) (.cons r1 (.cons r2 .nil)) _ rfl _) rfl (by omega) (by omega) (by simp [HL1.out, puts16_len])).mono ?_
  rintro e w2 ⟨L2, A2, c2, rfl, HL2, r3, hb⟩
  replace hB2 := bnext (bnextA hB2 _) hb
  clear r1 r2 hb
  go_wp2_with fail
  go_ret
  exact ⟨L2, A2, c2, rfl, by rw [Hid, HL2.out, HL1.out]; simp [puts16, be16, ex, ey], r3, hB2⟩

set_option maxHeartbeats 4000000 in
set_option maxRecDepth 10000 in
theorem aput_any (o : UInt16) (m0 m1 m2 m3 m4 m5 : UInt8) (s : UInt32) (n0 n1 n2 n3 n4 n5 : UInt8) (d : UInt32) (w : World) :
    Calls Try.prog 25 #[.agg #[.int .u16 (o.toNat : Int), .int .u8 (m0.toNat : Int), .int .u8 (m1.toNat : Int), .int .u8 (m2.toNat : Int), .int .u8 (m3.toNat : Int), .int .u8 (m4.toNat : Int), .int .u8 (m5.toNat : Int), .int .u32 (s.toNat : Int), .int .u8 (n0.toNat : Int), .int .u8 (n1.toNat : Int), .int .u8 (n2.toNat : Int), .int .u8 (n3.toNat : Int), .int .u8 (n4.toNat : Int), .int .u8 (n5.toNat : Int), .int .u32 (d.toNat : Int)]] w fun e w' => ∃ L A c, e = .returned (.slice A L.length c) ∧ Hid (L = arpB o m0 m1 m2 m3 m4 m5 s n0 n1 n2 n3 n4 n5 d) ∧ Rd bv w' w'.heap.size A c L ∧ Below w.heap.size w w' := by
  obtain ⟨W1, hW1⟩ : ∃ W1, W1 = w.alloc (.cells #[.int .u16 (o.toNat : Int), .int .u8 (m0.toNat : Int), .int .u8 (m1.toNat : Int), .int .u8 (m2.toNat : Int), .int .u8 (m3.toNat : Int), .int .u8 (m4.toNat : Int), .int .u8 (m5.toNat : Int), .int .u32 (s.toNat : Int), .int .u8 (n0.toNat : Int), .int .u8 (n1.toNat : Int), .int .u8 (n2.toNat : Int), .int .u8 (n3.toNat : Int), .int .u8 (n4.toNat : Int), .int .u8 (n5.toNat : Int), .int .u32 (d.toNat : Int)] 47) := ⟨_, rfl⟩
  have hB1 : Below w.heap.size w W1 := by subst hW1; exact bnextA (Below.refl _ _) _
  have hK1 : Blk W1 w.heap.size [.int .u16 (o.toNat : Int), .int .u8 (m0.toNat : Int), .int .u8 (m1.toNat : Int), .int .u8 (m2.toNat : Int), .int .u8 (m3.toNat : Int), .int .u8 (m4.toNat : Int), .int .u8 (m5.toNat : Int), .int .u32 (s.toNat : Int), .int .u8 (n0.toNat : Int), .int .u8 (n1.toNat : Int), .int .u8 (n2.toNat : Int), .int .u8 (n3.toNat : Int), .int .u8 (n4.toNat : Int), .int .u8 (n5.toNat : Int), .int .u32 (d.toNat : Int)] 47 := by subst hW1; exact Blk.new _ _ _
  have HS : ∀ W, Below W1.heap.size W1 W → (W.cell? ⟨w.heap.size, 0, none⟩ = some (.int .u16 (o.toNat : Int)) ∧ W.cell? ⟨w.heap.size, 1, none⟩ = some (.int .u8 (m0.toNat : Int)) ∧ W.cell? ⟨w.heap.size, 2, none⟩ = some (.int .u8 (m1.toNat : Int)) ∧ W.cell? ⟨w.heap.size, 3, none⟩ = some (.int .u8 (m2.toNat : Int)) ∧ W.cell? ⟨w.heap.size, 4, none⟩ = some (.int .u8 (m3.toNat : Int)) ∧ W.cell? ⟨w.heap.size, 5, none⟩ = some (.int .u8 (m4.toNat : Int)) ∧ W.cell? ⟨w.heap.size, 6, none⟩ = some (.int .u8 (m5.toNat : Int)) ∧ W.cell? ⟨w.heap.size, 7, none⟩ = some (.int .u32 (s.toNat : Int)) ∧ W.cell? ⟨w.heap.size, 8, none⟩ = some (.int .u8 (n0.toNat : Int)) ∧ W.cell? ⟨w.heap.size, 9, none⟩ = some (.int .u8 (n1.toNat : Int)) ∧ W.cell? ⟨w.heap.size, 10, none⟩ = some (.int .u8 (n2.toNat : Int)) ∧ W.cell? ⟨w.heap.size, 11, none⟩ = some (.int .u8 (n3.toNat : Int)) ∧ W.cell? ⟨w.heap.size, 12, none⟩ = some (.int .u8 (n4.toNat : Int)) ∧ W.cell? ⟨w.heap.size, 13, none⟩ = some (.int .u8 (n5.toNat : Int)) ∧ W.cell? ⟨w.heap.size, 14, none⟩ = some (.int .u32 (d.toNat : Int))) := by
    intro W h
    obtain ⟨p0, p1, p2, p3, p4, p5, p6, p7, p8, p9, p10, p11, p12, p13, p14, -⟩ := (hK1.next h).get15
    exact ⟨p0, p1, p2, p3, p4, p5, p6, p7, p8, p9, p10, p11, p12, p13, p14⟩
  have hm : Rd bv W1 W1.heap.size (some ⟨w.heap.size, 1, none⟩) 6 [m0, m1, m2, m3, m4, m5] := by
    subst hW1
    exact rd_in w _ 1 _ _ [m0, m1, m2, m3, m4, m5] rfl (by intro j hj; match j, hj with | 0, _ | 1, _ | 2, _ | 3, _ | 4, _ | 5, _ => rfl) (by simp)
  have hn : Rd bv W1 W1.heap.size (some ⟨w.heap.size, 8, none⟩) 6 [n0, n1, n2, n3, n4, n5] := by
    subst hW1
    exact rd_in w _ 8 _ _ [n0, n1, n2, n3, n4, n5] rfl (by intro j hj; match j, hj with | 0, _ | 1, _ | 2, _ | 3, _ | 4, _ | 5, _ => rfl) (by simp)
  go_enter Try.func25, Try.ntmps25
  go_wp2_with fail
  rw [← hW1]
  clear hW1
  refine region_put (by kernel_rfl) (by kernel_rfl) (by kernel_rfl) 22 rfl (by kernel_rfl) W1 (fun i v W => match i with
      | 0 => ∃ L A c, v = .slice A L.length c ∧ Hid (L = [0, 1, 8, 0, 6, 4]) ∧ Rd bv W W.heap.size A c L
      | 1 => v = .pointer (some ⟨w.heap.size, 0, none⟩)
      | 2 => v = .int .u16 (o.toNat : Int)
      | 3 => ∃ A, v = .slice A 1 1 ∧ Rd hv W W.heap.size A 1 [o]
      | 4 => ∃ L A c, v = .slice A L.length c ∧ Hid (L = be16 o) ∧ Rd bv W W.heap.size A c L
      | 5 => v = .pointer (some ⟨w.heap.size, 1, none⟩)
      | 6 => ∃ L A c, v = .slice A L.length c ∧ Hid (L = [m0, m1, m2, m3, m4, m5]) ∧ Rd bv W W.heap.size A c L
      | 7 => v = .pointer (some ⟨w.heap.size, 7, none⟩)
      | 8 => v = .int .u32 (s.toNat : Int)
      | 9 => ∃ A, v = .slice A 1 1 ∧ Rd wv W W.heap.size A 1 [s]
      | 10 => ∃ L A c, v = .slice A L.length c ∧ Hid (L = be32 s) ∧ Rd bv W W.heap.size A c L
      | 11 => v = .pointer (some ⟨w.heap.size, 8, none⟩)
      | 12 => ∃ L A c, v = .slice A L.length c ∧ Hid (L = [n0, n1, n2, n3, n4, n5]) ∧ Rd bv W W.heap.size A c L
      | 13 => v = .pointer (some ⟨w.heap.size, 14, none⟩)
      | 14 => v = .int .u32 (d.toNat : Int)
      | 15 => ∃ A, v = .slice A 1 1 ∧ Rd wv W W.heap.size A 1 [d]
      | 16 => ∃ L A c, v = .slice A L.length c ∧ Hid (L = be32 d) ∧ Rd bv W W.heap.size A c L
      | 17 => ∃ g ls, v = .slice (some ⟨g, 0, none⟩) 6 6 ∧ Hid (ls.flatten = arpB o m0 m1 m2 m3 m4 m5 s n0 n1 n2 n3 n4 n5 d) ∧ Hid (ls.length = 6) ∧ g < W.heap.size ∧ ∃ B, B ≤ W.heap.size ∧ Parts W B g ls
      | 18 => ∃ L A c, v = .slice A L.length c ∧ Hid (L = arpB o m0 m1 m2 m3 m4 m5 s n0 n1 n2 n3 n4 n5 d) ∧ Rd bv W W.heap.size A c L
      | 19 => ∃ L A c, v = .slice A L.length c ∧ Hid (L = arpB o m0 m1 m2 m3 m4 m5 s n0 n1 n2 n3 n4 n5 d) ∧ Rd bv W W.heap.size A c L
      | _ => True) (Below.refl _ _) ?_ ?_ ?_
  · intro i v W W' h hb
    match i, h with
    | 0, h => obtain ⟨L, A, c, h1, h2, h3⟩ := h; exact ⟨L, A, c, h1, h2, h3.next hb⟩
    | 1, h => exact h
    | 2, h => exact h
    | 3, h => obtain ⟨A, h1, h2⟩ := h; exact ⟨A, h1, h2.next hb⟩
    | 4, h => obtain ⟨L, A, c, h1, h2, h3⟩ := h; exact ⟨L, A, c, h1, h2, h3.next hb⟩
    | 5, h => exact h
    | 6, h => obtain ⟨L, A, c, h1, h2, h3⟩ := h; exact ⟨L, A, c, h1, h2, h3.next hb⟩
    | 7, h => exact h
    | 8, h => exact h
    | 9, h => obtain ⟨A, h1, h2⟩ := h; exact ⟨A, h1, h2.next hb⟩
    | 10, h => obtain ⟨L, A, c, h1, h2, h3⟩ := h; exact ⟨L, A, c, h1, h2, h3.next hb⟩
    | 11, h => exact h
    | 12, h => obtain ⟨L, A, c, h1, h2, h3⟩ := h; exact ⟨L, A, c, h1, h2, h3.next hb⟩
    | 13, h => exact h
    | 14, h => exact h
    | 15, h => obtain ⟨A, h1, h2⟩ := h; exact ⟨A, h1, h2.next hb⟩
    | 16, h => obtain ⟨L, A, c, h1, h2, h3⟩ := h; exact ⟨L, A, c, h1, h2, h3.next hb⟩
    | 17, h => obtain ⟨g, ls, h1, h2, h3, h4, B, h5, h6⟩ := h; exact ⟨g, ls, h1, h2, h3, Nat.lt_of_lt_of_le h4 hb.size, B, Nat.le_trans h5 hb.size, h6.next h4 h5 hb⟩
    | 18, h => obtain ⟨L, A, c, h1, h2, h3⟩ := h; exact ⟨L, A, c, h1, h2, h3.next hb⟩
    | 19, h => obtain ⟨L, A, c, h1, h2, h3⟩ := h; exact ⟨L, A, c, h1, h2, h3.next hb⟩
    | _ + 20, _ => trivial
  · intro i o uu W hoo hVW hd
    rcases i with _|_|_|_|_|_|_|_|_|_|_|_|_|_|_|_|_|_|_|_|i
    · obtain rfl := Option.some.inj hoo
      refine .inl ⟨wanted_none rfl, ?_⟩
      generalize hev : Act.eval _ = ev
      have ec : ∀ c, ev (.const c) = c := fun c => by rw [← hev]; rfl
      have ef : ∀ f, ev (.func f) = .func (.func f) #[] #[] := fun f => by rw [← hev]; rfl
      clear hev hd
      exact .inr ⟨_, _, _, by go_simp, akind_any W, fun e w' he => by
        obtain ⟨L, A, c, rfl, HL, hr, hb⟩ := he
        exact ⟨_, rfl, ⟨L, A, c, rfl, HL, hr⟩, hb⟩⟩
    · obtain rfl := Option.some.inj hoo
      refine .inl ⟨wanted_none rfl, ?_⟩
      generalize hev : Act.eval _ = ev
      have ec : ∀ c, ev (.const c) = c := fun c => by rw [← hev]; rfl
      have e1 : ev (.tmp 1) = .pointer (some ⟨w.heap.size, 0, none⟩) := by rw [← hev]; exact eval_old (by kernel_rfl) 22 rfl (by decide) rfl
      clear hev hd
      exact .inl ⟨_, W, by go_simp, rfl, Below.refl _ _⟩
    · obtain rfl := Option.some.inj hoo
      have q1 : uu 1 = .pointer (some ⟨w.heap.size, 0, none⟩) := hd 1 (by kernel_rfl)
      refine .inl ⟨wanted_none rfl, ?_⟩
      generalize hev : Act.eval _ = ev
      have ec : ∀ c, ev (.const c) = c := fun c => by rw [← hev]; rfl
      have e4 : ev (.tmp 4) = .pointer (some ⟨w.heap.size, 0, none⟩) := by rw [← hev]; exact (eval_put (by kernel_rfl) 22 rfl (by decide)).trans q1
      clear hev hd q1
      obtain ⟨cc0, cc1, cc2, cc3, cc4, cc5, cc6, cc7, cc8, cc9, cc10, cc11, cc12, cc13, cc14⟩ := HS W hVW
      exact .inl ⟨_, W, by go_simp, rfl, Below.refl _ _⟩
    · obtain rfl := Option.some.inj hoo
      have q2 : uu 2 = .int .u16 (o.toNat : Int) := hd 2 (by kernel_rfl)
      refine .inl ⟨wanted_none rfl, ?_⟩
      generalize hev : Act.eval _ = ev
      have ec : ∀ c, ev (.const c) = c := fun c => by rw [← hev]; rfl
      have e5 : ev (.tmp 5) = .int .u16 (o.toNat : Int) := by rw [← hev]; exact (eval_put (by kernel_rfl) 22 rfl (by decide)).trans q2
      clear hev hd q2
      exact .inl ⟨_, W.alloc (.cells #[.int .u16 (o.toNat : Int)] 24), by go_simp, ⟨_, rfl, lit16_at W _ [o] rfl #[.int .u16 (o.toNat : Int)] (rfl) _ (by simp)⟩, bnextA (Below.refl _ _) _⟩
    · obtain rfl := Option.some.inj hoo
      obtain ⟨A3, q3, r3⟩ := hd 3 (by kernel_rfl)
      refine .inl ⟨wanted_none rfl, ?_⟩
      generalize hev : Act.eval _ = ev
      have ec : ∀ c, ev (.const c) = c := fun c => by rw [← hev]; rfl
      have ef : ∀ f, ev (.func f) = .func (.func f) #[] #[] := fun f => by rw [← hev]; rfl
      have e6 : ev (.tmp 6) = .slice A3 1 1 := by rw [← hev]; exact (eval_put (by kernel_rfl) 22 rfl (by decide)).trans q3
      clear hev hd q3
      exact .inr ⟨_, _, _, by go_simp, put16_nil A3 1 [o] W r3 (by simp), fun e w' he => by
        obtain ⟨L, A, c, rfl, HL, hr, hb⟩ := he
        exact ⟨_, rfl, ⟨L, A, c, rfl, by rw [Hid, HL.out]; simp [puts16], hr⟩, hb⟩⟩
    · obtain rfl := Option.some.inj hoo
      refine .inl ⟨wanted_none rfl, ?_⟩
      generalize hev : Act.eval _ = ev
      have ec : ∀ c, ev (.const c) = c := fun c => by rw [← hev]; rfl
      have e1 : ev (.tmp 1) = .pointer (some ⟨w.heap.size, 0, none⟩) := by rw [← hev]; exact eval_old (by kernel_rfl) 22 rfl (by decide) rfl
      clear hev hd
      exact .inl ⟨_, W, by go_simp, rfl, Below.refl _ _⟩
    · obtain rfl := Option.some.inj hoo
      have q5 : uu 5 = .pointer (some ⟨w.heap.size, 1, none⟩) := hd 5 (by kernel_rfl)
      refine .inl ⟨wanted_none rfl, ?_⟩
      generalize hev : Act.eval _ = ev
      have ec : ∀ c, ev (.const c) = c := fun c => by rw [← hev]; rfl
      have e8 : ev (.tmp 8) = .pointer (some ⟨w.heap.size, 1, none⟩) := by rw [← hev]; exact (eval_put (by kernel_rfl) 22 rfl (by decide)).trans q5
      clear hev hd q5
      exact .inl ⟨_, W, by go_simp, ⟨[m0, m1, m2, m3, m4, m5], some ⟨w.heap.size, 1, none⟩, 6, rfl, rfl, hm.next hVW⟩, Below.refl _ _⟩
    · obtain rfl := Option.some.inj hoo
      refine .inl ⟨wanted_none rfl, ?_⟩
      generalize hev : Act.eval _ = ev
      have ec : ∀ c, ev (.const c) = c := fun c => by rw [← hev]; rfl
      have e1 : ev (.tmp 1) = .pointer (some ⟨w.heap.size, 0, none⟩) := by rw [← hev]; exact eval_old (by kernel_rfl) 22 rfl (by decide) rfl
      clear hev hd
      exact .inl ⟨_, W, by go_simp, rfl, Below.refl _ _⟩
    · obtain rfl := Option.some.inj hoo
      have q7 : uu 7 = .pointer (some ⟨w.heap.size, 7, none⟩) := hd 7 (by kernel_rfl)
      refine .inl ⟨wanted_none rfl, ?_⟩
      generalize hev : Act.eval _ = ev
      have ec : ∀ c, ev (.const c) = c := fun c => by rw [← hev]; rfl
      have e10 : ev (.tmp 10) = .pointer (some ⟨w.heap.size, 7, none⟩) := by rw [← hev]; exact (eval_put (by kernel_rfl) 22 rfl (by decide)).trans q7
      clear hev hd q7
      obtain ⟨cc0, cc1, cc2, cc3, cc4, cc5, cc6, cc7, cc8, cc9, cc10, cc11, cc12, cc13, cc14⟩ := HS W hVW
      exact .inl ⟨_, W, by go_simp, rfl, Below.refl _ _⟩
    · obtain rfl := Option.some.inj hoo
      have q8 : uu 8 = .int .u32 (s.toNat : Int) := hd 8 (by kernel_rfl)
      refine .inl ⟨wanted_none rfl, ?_⟩
      generalize hev : Act.eval _ = ev
      have ec : ∀ c, ev (.const c) = c := fun c => by rw [← hev]; rfl
      have e11 : ev (.tmp 11) = .int .u32 (s.toNat : Int) := by rw [← hev]; exact (eval_put (by kernel_rfl) 22 rfl (by decide)).trans q8
      clear hev hd q8
      exact .inl ⟨_, W.alloc (.cells #[.int .u32 (s.toNat : Int)] 25), by go_simp, ⟨_, rfl, lit32_at W _ [s] rfl #[.int .u32 (s.toNat : Int)] (rfl) _ (by simp)⟩, bnextA (Below.refl _ _) _⟩
    · obtain rfl := Option.some.inj hoo
      obtain ⟨A9, q9, r9⟩ := hd 9 (by kernel_rfl)
      refine .inl ⟨wanted_none rfl, ?_⟩
      generalize hev : Act.eval _ = ev
      have ec : ∀ c, ev (.const c) = c := fun c => by rw [← hev]; rfl
      have ef : ∀ f, ev (.func f) = .func (.func f) #[] #[] := fun f => by rw [← hev]; rfl
      have e12 : ev (.tmp 12) = .slice A9 1 1 := by rw [← hev]; exact (eval_put (by kernel_rfl) 22 rfl (by decide)).trans q9
      clear hev hd q9
      exact .inr ⟨_, _, _, by go_simp, put32_nil A9 1 [s] W r9 (by simp), fun e w' he => by
        obtain ⟨L, A, c, rfl, HL, hr, hb⟩ := he
        exact ⟨_, rfl, ⟨L, A, c, rfl, by rw [Hid, HL.out]; simp [puts32], hr⟩, hb⟩⟩
    · obtain rfl := Option.some.inj hoo
      refine .inl ⟨wanted_none rfl, ?_⟩
      generalize hev : Act.eval _ = ev
      have ec : ∀ c, ev (.const c) = c := fun c => by rw [← hev]; rfl
      have e1 : ev (.tmp 1) = .pointer (some ⟨w.heap.size, 0, none⟩) := by rw [← hev]; exact eval_old (by kernel_rfl) 22 rfl (by decide) rfl
      clear hev hd
      exact .inl ⟨_, W, by go_simp, rfl, Below.refl _ _⟩
    · obtain rfl := Option.some.inj hoo
      have q11 : uu 11 = .pointer (some ⟨w.heap.size, 8, none⟩) := hd 11 (by kernel_rfl)
      refine .inl ⟨wanted_none rfl, ?_⟩
      generalize hev : Act.eval _ = ev
      have ec : ∀ c, ev (.const c) = c := fun c => by rw [← hev]; rfl
      have e14 : ev (.tmp 14) = .pointer (some ⟨w.heap.size, 8, none⟩) := by rw [← hev]; exact (eval_put (by kernel_rfl) 22 rfl (by decide)).trans q11
      clear hev hd q11
      exact .inl ⟨_, W, by go_simp, ⟨[n0, n1, n2, n3, n4, n5], some ⟨w.heap.size, 8, none⟩, 6, rfl, rfl, hn.next hVW⟩, Below.refl _ _⟩
    · obtain rfl := Option.some.inj hoo
      refine .inl ⟨wanted_none rfl, ?_⟩
      generalize hev : Act.eval _ = ev
      have ec : ∀ c, ev (.const c) = c := fun c => by rw [← hev]; rfl
      have e1 : ev (.tmp 1) = .pointer (some ⟨w.heap.size, 0, none⟩) := by rw [← hev]; exact eval_old (by kernel_rfl) 22 rfl (by decide) rfl
      clear hev hd
      exact .inl ⟨_, W, by go_simp, rfl, Below.refl _ _⟩
    · obtain rfl := Option.some.inj hoo
      have q13 : uu 13 = .pointer (some ⟨w.heap.size, 14, none⟩) := hd 13 (by kernel_rfl)
      refine .inl ⟨wanted_none rfl, ?_⟩
      generalize hev : Act.eval _ = ev
      have ec : ∀ c, ev (.const c) = c := fun c => by rw [← hev]; rfl
      have e16 : ev (.tmp 16) = .pointer (some ⟨w.heap.size, 14, none⟩) := by rw [← hev]; exact (eval_put (by kernel_rfl) 22 rfl (by decide)).trans q13
      clear hev hd q13
      obtain ⟨cc0, cc1, cc2, cc3, cc4, cc5, cc6, cc7, cc8, cc9, cc10, cc11, cc12, cc13, cc14⟩ := HS W hVW
      exact .inl ⟨_, W, by go_simp, rfl, Below.refl _ _⟩
    · obtain rfl := Option.some.inj hoo
      have q14 : uu 14 = .int .u32 (d.toNat : Int) := hd 14 (by kernel_rfl)
      refine .inl ⟨wanted_none rfl, ?_⟩
      generalize hev : Act.eval _ = ev
      have ec : ∀ c, ev (.const c) = c := fun c => by rw [← hev]; rfl
      have e17 : ev (.tmp 17) = .int .u32 (d.toNat : Int) := by rw [← hev]; exact (eval_put (by kernel_rfl) 22 rfl (by decide)).trans q14
      clear hev hd q14
      exact .inl ⟨_, W.alloc (.cells #[.int .u32 (d.toNat : Int)] 25), by go_simp, ⟨_, rfl, lit32_at W _ [d] rfl #[.int .u32 (d.toNat : Int)] (rfl) _ (by simp)⟩, bnextA (Below.refl _ _) _⟩
    · obtain rfl := Option.some.inj hoo
      obtain ⟨A15, q15, r15⟩ := hd 15 (by kernel_rfl)
      refine .inl ⟨wanted_none rfl, ?_⟩
      generalize hev : Act.eval _ = ev
      have ec : ∀ c, ev (.const c) = c := fun c => by rw [← hev]; rfl
      have ef : ∀ f, ev (.func f) = .func (.func f) #[] #[] := fun f => by rw [← hev]; rfl
      have e18 : ev (.tmp 18) = .slice A15 1 1 := by rw [← hev]; exact (eval_put (by kernel_rfl) 22 rfl (by decide)).trans q15
      clear hev hd q15
      exact .inr ⟨_, _, _, by go_simp, put32_nil A15 1 [d] W r15 (by simp), fun e w' he => by
        obtain ⟨L, A, c, rfl, HL, hr, hb⟩ := he
        exact ⟨_, rfl, ⟨L, A, c, rfl, by rw [Hid, HL.out]; simp [puts32], hr⟩, hb⟩⟩
    · obtain rfl := Option.some.inj hoo
      obtain ⟨L0, A0, c0, q0, HL0, r0⟩ := hd 0 (by kernel_rfl)
      obtain ⟨L4, A4, c4, q4, HL4, r4⟩ := hd 4 (by kernel_rfl)
      obtain ⟨L6, A6, c6, q6, HL6, r6⟩ := hd 6 (by kernel_rfl)
      obtain ⟨L10, A10, c10, q10, HL10, r10⟩ := hd 10 (by kernel_rfl)
      obtain ⟨L12, A12, c12, q12, HL12, r12⟩ := hd 12 (by kernel_rfl)
      obtain ⟨L16, A16, c16, q16, HL16, r16⟩ := hd 16 (by kernel_rfl)
      refine .inl ⟨wanted_none rfl, ?_⟩
      generalize hev : Act.eval _ = ev
      have ec : ∀ c, ev (.const c) = c := fun c => by rw [← hev]; rfl
      have e3 : ev (.tmp 3) = .slice A0 L0.length c0 := by rw [← hev]; exact (eval_put (by kernel_rfl) 22 rfl (by decide)).trans q0
      have e7 : ev (.tmp 7) = .slice A4 L4.length c4 := by rw [← hev]; exact (eval_put (by kernel_rfl) 22 rfl (by decide)).trans q4
      have e9 : ev (.tmp 9) = .slice A6 L6.length c6 := by rw [← hev]; exact (eval_put (by kernel_rfl) 22 rfl (by decide)).trans q6
      have e13 : ev (.tmp 13) = .slice A10 L10.length c10 := by rw [← hev]; exact (eval_put (by kernel_rfl) 22 rfl (by decide)).trans q10
      have e15 : ev (.tmp 15) = .slice A12 L12.length c12 := by rw [← hev]; exact (eval_put (by kernel_rfl) 22 rfl (by decide)).trans q12
      have e19 : ev (.tmp 19) = .slice A16 L16.length c16 := by rw [← hev]; exact (eval_put (by kernel_rfl) 22 rfl (by decide)).trans q16
      clear hev hd q0 q4 q6 q10 q12 q16
      exact .inl ⟨_, W.alloc (.cells #[.slice A0 L0.length c0, .slice A4 L4.length c4, .slice A6 L6.length c6, .slice A10 L10.length c10, .slice A12 L12.length c12, .slice A16 L16.length c16] 22), by go_simp, ⟨W.heap.size, [L0, L4, L6, L10, L12, L16], rfl, by rw [Hid, HL0.out, HL4.out, HL6.out, HL10.out, HL12.out, HL16.out]; simp [arpB], rfl, by simp, W.heap.size, by simp, parts_at _ rfl (.cons r0 (.cons r4 (.cons r6 (.cons r10 (.cons r12 (.cons r16 .nil)))))) _ rfl _⟩, bnextA (Below.refl _ _) _⟩
    · obtain rfl := Option.some.inj hoo
      obtain ⟨g17, ls17, q17, HF17, HN17, hg17, B17, hB17, hP17⟩ := hd 17 (by kernel_rfl)
      refine .inl ⟨wanted_none rfl, ?_⟩
      generalize hev : Act.eval _ = ev
      have ec : ∀ c, ev (.const c) = c := fun c => by rw [← hev]; rfl
      have ef : ∀ f, ev (.func f) = .func (.func f) #[] #[] := fun f => by rw [← hev]; rfl
      have e20 : ev (.tmp 20) = .slice (some ⟨g17, 0, none⟩) 6 6 := by rw [← hev]; exact (eval_put (by kernel_rfl) 22 rfl (by decide)).trans q17
      clear hev hd q17
      exact .inr ⟨_, _, _, by go_simp, join_any W B17 g17 6 ls17 hP17 HN17.out (by omega) (by omega) (by rw [HF17.out, arpB_len]; omega), fun e w' he => by
        obtain ⟨L, A, c, rfl, HL, hr, hb⟩ := he
        exact ⟨_, rfl, ⟨L, A, c, rfl, by rw [Hid, HL.out, HF17.out], hr⟩, hb⟩⟩
    · obtain rfl := Option.some.inj hoo
      obtain ⟨L18, A18, c18, q18, HL18, r18⟩ := hd 18 (by kernel_rfl)
      refine .inl ⟨wanted_none rfl, ?_⟩
      generalize hev : Act.eval _ = ev
      have ec : ∀ c, ev (.const c) = c := fun c => by rw [← hev]; rfl
      have e21 : ev (.tmp 21) = .slice A18 L18.length c18 := by rw [← hev]; exact (eval_put (by kernel_rfl) 22 rfl (by decide)).trans q18
      clear hev hd q18
      exact .inl ⟨_, W, by go_simp, ⟨L18, A18, c18, rfl, HL18, r18⟩, Below.refl _ _⟩
    · simp at hoo
  · intro uu W hVW hall
    obtain ⟨L, A, c, q19, HL, hr⟩ : ∃ L A c, uu 19 = .slice A L.length c ∧ Hid (L = arpB o m0 m1 m2 m3 m4 m5 s n0 n1 n2 n3 n4 n5 d) ∧ Rd bv W W.heap.size A c L := hall 19 (by decide)
    have hB := hB1.trans (hVW.mono hB1.size)
    clear hall HS hK1 hm hn
    simp only [putAll, Act.put, Nat.reduceAdd, q19]
    simp only [List.setIfInBounds_toArray, List.set_cons_succ, List.set_cons_zero]
    go_wp2_with fail
    go_ret
    exact ⟨L, A, c, rfl, HL, hr, hB⟩

set_option maxHeartbeats 4000000 in
set_option maxRecDepth 10000 in
theorem rput_arp (o : UInt16) (m0 m1 m2 m3 m4 m5 : UInt8) (s : UInt32) (n0 n1 n2 n3 n4 n5 : UInt8) (d : UInt32) (w : World) :
    Calls Try.prog 27 #[.agg #[.int .u16 (o.toNat : Int), .int .u8 (m0.toNat : Int), .int .u8 (m1.toNat : Int), .int .u8 (m2.toNat : Int), .int .u8 (m3.toNat : Int), .int .u8 (m4.toNat : Int), .int .u8 (m5.toNat : Int), .int .u32 (s.toNat : Int), .int .u8 (n0.toNat : Int), .int .u8 (n1.toNat : Int), .int .u8 (n2.toNat : Int), .int .u8 (n3.toNat : Int), .int .u8 (n4.toNat : Int), .int .u8 (n5.toNat : Int), .int .u32 (d.toNat : Int)]] w fun e w' => ∃ L A c, e = .returned (.slice A L.length c) ∧ Hid (L = arpB o m0 m1 m2 m3 m4 m5 s n0 n1 n2 n3 n4 n5 d) ∧ Rd bv w' w'.heap.size A c L ∧ Below w.heap.size w w' := by
  obtain ⟨W1, hW1⟩ : ∃ W1, W1 = w.alloc (.cells #[.int .u16 (o.toNat : Int), .int .u8 (m0.toNat : Int), .int .u8 (m1.toNat : Int), .int .u8 (m2.toNat : Int), .int .u8 (m3.toNat : Int), .int .u8 (m4.toNat : Int), .int .u8 (m5.toNat : Int), .int .u32 (s.toNat : Int), .int .u8 (n0.toNat : Int), .int .u8 (n1.toNat : Int), .int .u8 (n2.toNat : Int), .int .u8 (n3.toNat : Int), .int .u8 (n4.toNat : Int), .int .u8 (n5.toNat : Int), .int .u32 (d.toNat : Int)] 47) := ⟨_, rfl⟩
  have hB1 : Below w.heap.size w W1 := by subst hW1; exact bnextA (Below.refl _ _) _
  have hK1 : Blk W1 w.heap.size [.int .u16 (o.toNat : Int), .int .u8 (m0.toNat : Int), .int .u8 (m1.toNat : Int), .int .u8 (m2.toNat : Int), .int .u8 (m3.toNat : Int), .int .u8 (m4.toNat : Int), .int .u8 (m5.toNat : Int), .int .u32 (s.toNat : Int), .int .u8 (n0.toNat : Int), .int .u8 (n1.toNat : Int), .int .u8 (n2.toNat : Int), .int .u8 (n3.toNat : Int), .int .u8 (n4.toNat : Int), .int .u8 (n5.toNat : Int), .int .u32 (d.toNat : Int)] 47 := by subst hW1; exact Blk.new _ _ _
  have HS : ∀ W, Below W1.heap.size W1 W → (W.cell? ⟨w.heap.size, 0, none⟩ = some (.int .u16 (o.toNat : Int)) ∧ W.cell? ⟨w.heap.size, 1, none⟩ = some (.int .u8 (m0.toNat : Int)) ∧ W.cell? ⟨w.heap.size, 2, none⟩ = some (.int .u8 (m1.toNat : Int)) ∧ W.cell? ⟨w.heap.size, 3, none⟩ = some (.int .u8 (m2.toNat : Int)) ∧ W.cell? ⟨w.heap.size, 4, none⟩ = some (.int .u8 (m3.toNat : Int)) ∧ W.cell? ⟨w.heap.size, 5, none⟩ = some (.int .u8 (m4.toNat : Int)) ∧ W.cell? ⟨w.heap.size, 6, none⟩ = some (.int .u8 (m5.toNat : Int)) ∧ W.cell? ⟨w.heap.size, 7, none⟩ = some (.int .u32 (s.toNat : Int)) ∧ W.cell? ⟨w.heap.size, 8, none⟩ = some (.int .u8 (n0.toNat : Int)) ∧ W.cell? ⟨w.heap.size, 9, none⟩ = some (.int .u8 (n1.toNat : Int)) ∧ W.cell? ⟨w.heap.size, 10, none⟩ = some (.int .u8 (n2.toNat : Int)) ∧ W.cell? ⟨w.heap.size, 11, none⟩ = some (.int .u8 (n3.toNat : Int)) ∧ W.cell? ⟨w.heap.size, 12, none⟩ = some (.int .u8 (n4.toNat : Int)) ∧ W.cell? ⟨w.heap.size, 13, none⟩ = some (.int .u8 (n5.toNat : Int)) ∧ W.cell? ⟨w.heap.size, 14, none⟩ = some (.int .u32 (d.toNat : Int))) := by
    intro W h
    obtain ⟨p0, p1, p2, p3, p4, p5, p6, p7, p8, p9, p10, p11, p12, p13, p14, -⟩ := (hK1.next h).get15
    exact ⟨p0, p1, p2, p3, p4, p5, p6, p7, p8, p9, p10, p11, p12, p13, p14⟩
  obtain ⟨p0, p1, p2, p3, p4, p5, p6, p7, p8, p9, p10, p11, p12, p13, p14⟩ := HS W1 (Below.refl _ _)
  have hsz : W1.heap.size = w.heap.size + 1 := by subst hW1; simp
  have ho := u16_le o
  go_enter Try.func27, Try.ntmps27
  go_wp2_with fail
  rw [← hW1]
  clear hW1
  --SEE
  have h8 : Rd bv (W1.alloc (.cells #[.int .u8 0, .int .u8 1, .int .u8 8, .int .u8 0, .int .u8 6, .int .u8 4, .int .u8 ((o.toNat : Int) / 256), .int .u8 ((o.toNat : Int) % 256)] 5)) (W1.alloc (.cells #[.int .u8 0, .int .u8 1, .int .u8 8, .int .u8 0, .int .u8 6, .int .u8 4, .int .u8 ((o.toNat : Int) / 256), .int .u8 ((o.toNat : Int) % 256)] 5)).heap.size (some ⟨w.heap.size + 1, 0, none⟩) 8 [0, 1, 8, 0, 6, 4, UInt8.ofNat (o.toNat / 256), UInt8.ofNat (o.toNat % 256)] :=
    lit_at W1 _ [0, 1, 8, 0, 6, 4, UInt8.ofNat (o.toNat / 256), UInt8.ofNat (o.toNat % 256)] hsz.symm _ (by simp [bv]; try omega) _ (by simp)
  have hb := bnextA (Below.refl W1.heap.size W1) (.cells #[.int .u8 0, .int .u8 1, .int .u8 8, .int .u8 0, .int .u8 6, .int .u8 4, .int .u8 ((o.toNat : Int) / 256), .int .u8 ((o.toNat : Int) % 256)] 5)
  have hB2 := bnext hB1 hb
  replace HS : ∀ V, Below (W1.alloc (.cells #[.int .u8 0, .int .u8 1, .int .u8 8, .int .u8 0, .int .u8 6, .int .u8 4, .int .u8 ((o.toNat : Int) / 256), .int .u8 ((o.toNat : Int) % 256)] 5)).heap.size (W1.alloc (.cells #[.int .u8 0, .int .u8 1, .int .u8 8, .int .u8 0, .int .u8 6, .int .u8 4, .int .u8 ((o.toNat : Int) / 256), .int .u8 ((o.toNat : Int) % 256)] 5)) V → (V.cell? ⟨w.heap.size, 0, none⟩ = some (.int .u16 (o.toNat : Int)) ∧ V.cell? ⟨w.heap.size, 1, none⟩ = some (.int .u8 (m0.toNat : Int)) ∧ V.cell? ⟨w.heap.size, 2, none⟩ = some (.int .u8 (m1.toNat : Int)) ∧ V.cell? ⟨w.heap.size, 3, none⟩ = some (.int .u8 (m2.toNat : Int)) ∧ V.cell? ⟨w.heap.size, 4, none⟩ = some (.int .u8 (m3.toNat : Int)) ∧ V.cell? ⟨w.heap.size, 5, none⟩ = some (.int .u8 (m4.toNat : Int)) ∧ V.cell? ⟨w.heap.size, 6, none⟩ = some (.int .u8 (m5.toNat : Int)) ∧ V.cell? ⟨w.heap.size, 7, none⟩ = some (.int .u32 (s.toNat : Int)) ∧ V.cell? ⟨w.heap.size, 8, none⟩ = some (.int .u8 (n0.toNat : Int)) ∧ V.cell? ⟨w.heap.size, 9, none⟩ = some (.int .u8 (n1.toNat : Int)) ∧ V.cell? ⟨w.heap.size, 10, none⟩ = some (.int .u8 (n2.toNat : Int)) ∧ V.cell? ⟨w.heap.size, 11, none⟩ = some (.int .u8 (n3.toNat : Int)) ∧ V.cell? ⟨w.heap.size, 12, none⟩ = some (.int .u8 (n4.toNat : Int)) ∧ V.cell? ⟨w.heap.size, 13, none⟩ = some (.int .u8 (n5.toNat : Int)) ∧ V.cell? ⟨w.heap.size, 14, none⟩ = some (.int .u32 (d.toNat : Int))) := fun V h => HS V (bnext hb h)
  clear p0 p1 p2 p3 p4 p5 p6 p7 p8 p9 p10 p11 p12 p13 p14 hb hK1 hB1
  generalize W1.alloc (.cells #[.int .u8 0, .int .u8 1, .int .u8 8, .int .u8 0, .int .u8 6, .int .u8 4, .int .u8 ((o.toNat : Int) / 256), .int .u8 ((o.toNat : Int) % 256)] 5) = W2 at *
  refine region_putD (by kernel_rfl) (by kernel_rfl) (by kernel_rfl) 31 rfl (by kernel_rfl) W2 (fun i v W => match i with
      | 0 => v = .slice (some ⟨w.heap.size + 1, 0, none⟩) 8 8
      | 1 => v = .pointer (some ⟨w.heap.size, 1, none⟩)
      | 2 => v = .agg #[.int .u8 (m0.toNat : Int), .int .u8 (m1.toNat : Int), .int .u8 (m2.toNat : Int), .int .u8 (m3.toNat : Int), .int .u8 (m4.toNat : Int), .int .u8 (m5.toNat : Int)]
      | 3 => ∃ L A c, v = .slice A L.length c ∧ Hid (L = [m0, m1, m2, m3, m4, m5]) ∧ Rd bv W W.heap.size A c L
      | 4 => v = .pointer (some ⟨w.heap.size, 7, none⟩)
      | 5 => v = .int .u32 (s.toNat : Int)
      | 6 => ∃ L A c, v = .slice A L.length c ∧ Hid (L = be32 s) ∧ Rd bv W W.heap.size A c L
      | 7 => ∃ L A c, v = .slice A L.length c ∧ Hid (L = [m0, m1, m2, m3, m4, m5] ++ be32 s) ∧ Rd bv W W.heap.size A c L
      | 8 => ∃ L A c, v = .slice A L.length c ∧ Hid (L = [0, 1, 8, 0, 6, 4, UInt8.ofNat (o.toNat / 256), UInt8.ofNat (o.toNat % 256)] ++ ([m0, m1, m2, m3, m4, m5] ++ be32 s)) ∧ Rd bv W W.heap.size A c L
      | 9 => ∃ L A c, v = .slice A L.length c ∧ Hid (L = [0, 1, 8, 0, 6, 4, UInt8.ofNat (o.toNat / 256), UInt8.ofNat (o.toNat % 256)] ++ ([m0, m1, m2, m3, m4, m5] ++ be32 s)) ∧ Rd bv W W.heap.size A c L
      | _ => True) (Below.refl _ _) ?_ ?_ ?_
  · intro i v W W' h hb
    match i, h with
    | 0, h => exact h
    | 1, h => exact h
    | 2, h => exact h
    | 3, h => obtain ⟨L, A, c, h1, h2, h3⟩ := h; exact ⟨L, A, c, h1, h2, h3.next hb⟩
    | 4, h => exact h
    | 5, h => exact h
    | 6, h => obtain ⟨L, A, c, h1, h2, h3⟩ := h; exact ⟨L, A, c, h1, h2, h3.next hb⟩
    | 7, h => obtain ⟨L, A, c, h1, h2, h3⟩ := h; exact ⟨L, A, c, h1, h2, h3.next hb⟩
    | 8, h => obtain ⟨L, A, c, h1, h2, h3⟩ := h; exact ⟨L, A, c, h1, h2, h3.next hb⟩
    | 9, h => obtain ⟨L, A, c, h1, h2, h3⟩ := h; exact ⟨L, A, c, h1, h2, h3.next hb⟩
    | _ + 10, _ => trivial
  · intro i o uu W hoo hVW hd hold
    rcases i with _|_|_|_|_|_|_|_|_|_|i
    · obtain rfl := Option.some.inj hoo
      refine .inl ⟨wanted_none rfl, ?_⟩
      generalize hev : Act.eval _ = ev
      have ec : ∀ c, ev (.const c) = c := fun c => by rw [← hev]; rfl
      have e3 : ev (.tmp 3) = .slice (some ⟨w.heap.size + 1, 0, none⟩) 8 8 := by rw [← hev]; exact (eval_put (by kernel_rfl) 31 rfl (by decide)).trans (hold 9 3 _ (by kernel_rfl) (by kernel_rfl) rfl)
      clear hev hd hold
      exact .inl ⟨_, W, by go_simp, rfl, Below.refl _ _⟩
    · obtain rfl := Option.some.inj hoo
      refine .inl ⟨wanted_none rfl, ?_⟩
      generalize hev : Act.eval _ = ev
      have ec : ∀ c, ev (.const c) = c := fun c => by rw [← hev]; rfl
      have e1 : ev (.tmp 1) = .pointer (some ⟨w.heap.size, 0, none⟩) := by rw [← hev]; exact eval_old (by kernel_rfl) 31 rfl (by decide) rfl
      clear hev hd hold
      exact .inl ⟨_, W, by go_simp, rfl, Below.refl _ _⟩
    · obtain rfl := Option.some.inj hoo
      have q1 : uu 1 = .pointer (some ⟨w.heap.size, 1, none⟩) := hd 1 (by kernel_rfl)
      refine .inl ⟨wanted_none rfl, ?_⟩
      generalize hev : Act.eval _ = ev
      have ec : ∀ c, ev (.const c) = c := fun c => by rw [← hev]; rfl
      have e14 : ev (.tmp 14) = .pointer (some ⟨w.heap.size, 1, none⟩) := by rw [← hev]; exact (eval_put (by kernel_rfl) 31 rfl (by decide)).trans q1
      clear hev hd hold q1
      obtain ⟨cc0, cc1, cc2, cc3, cc4, cc5, cc6, cc7, cc8, cc9, cc10, cc11, cc12, cc13, cc14⟩ := HS W hVW
      exact .inl ⟨_, W, by go_simp, rfl, Below.refl _ _⟩
    · obtain rfl := Option.some.inj hoo
      have q2 : uu 2 = .agg #[.int .u8 (m0.toNat : Int), .int .u8 (m1.toNat : Int), .int .u8 (m2.toNat : Int), .int .u8 (m3.toNat : Int), .int .u8 (m4.toNat : Int), .int .u8 (m5.toNat : Int)] := hd 2 (by kernel_rfl)
      refine .inl ⟨wanted_none rfl, ?_⟩
      generalize hev : Act.eval _ = ev
      have ec : ∀ c, ev (.const c) = c := fun c => by rw [← hev]; rfl
      have ef : ∀ f, ev (.func f) = .func (.func f) #[] #[] := fun f => by rw [← hev]; rfl
      have e15 : ev (.tmp 15) = .agg #[.int .u8 (m0.toNat : Int), .int .u8 (m1.toNat : Int), .int .u8 (m2.toNat : Int), .int .u8 (m3.toNat : Int), .int .u8 (m4.toNat : Int), .int .u8 (m5.toNat : Int)] := by rw [← hev]; exact (eval_put (by kernel_rfl) 31 rfl (by decide)).trans q2
      clear hev hd hold q2
      exact .inr ⟨_, _, _, by go_simp, rmac_any m0 m1 m2 m3 m4 m5 W, fun e w' he => by
        obtain ⟨L, A, c, rfl, HL, hr, hb⟩ := he
        exact ⟨_, rfl, ⟨L, A, c, rfl, HL, hr⟩, hb⟩⟩
    · obtain rfl := Option.some.inj hoo
      refine .inl ⟨wanted_none rfl, ?_⟩
      generalize hev : Act.eval _ = ev
      have ec : ∀ c, ev (.const c) = c := fun c => by rw [← hev]; rfl
      have e1 : ev (.tmp 1) = .pointer (some ⟨w.heap.size, 0, none⟩) := by rw [← hev]; exact eval_old (by kernel_rfl) 31 rfl (by decide) rfl
      clear hev hd hold
      exact .inl ⟨_, W, by go_simp, rfl, Below.refl _ _⟩
    · obtain rfl := Option.some.inj hoo
      have q4 : uu 4 = .pointer (some ⟨w.heap.size, 7, none⟩) := hd 4 (by kernel_rfl)
      refine .inl ⟨wanted_none rfl, ?_⟩
      generalize hev : Act.eval _ = ev
      have ec : ∀ c, ev (.const c) = c := fun c => by rw [← hev]; rfl
      have e17 : ev (.tmp 17) = .pointer (some ⟨w.heap.size, 7, none⟩) := by rw [← hev]; exact (eval_put (by kernel_rfl) 31 rfl (by decide)).trans q4
      clear hev hd hold q4
      obtain ⟨cc0, cc1, cc2, cc3, cc4, cc5, cc6, cc7, cc8, cc9, cc10, cc11, cc12, cc13, cc14⟩ := HS W hVW
      exact .inl ⟨_, W, by go_simp, rfl, Below.refl _ _⟩
    · obtain rfl := Option.some.inj hoo
      have q5 : uu 5 = .int .u32 (s.toNat : Int) := hd 5 (by kernel_rfl)
      refine .inl ⟨wanted_none rfl, ?_⟩
      generalize hev : Act.eval _ = ev
      have ec : ∀ c, ev (.const c) = c := fun c => by rw [← hev]; rfl
      have ef : ∀ f, ev (.func f) = .func (.func f) #[] #[] := fun f => by rw [← hev]; rfl
      have e18 : ev (.tmp 18) = .int .u32 (s.toNat : Int) := by rw [← hev]; exact (eval_put (by kernel_rfl) 31 rfl (by decide)).trans q5
      clear hev hd hold q5
      exact .inr ⟨_, _, _, by go_simp, rput_any s.toNat 4 W (s.toNat_lt) (by omega), fun e w' he => by
        obtain ⟨v, rfl, hown, hb⟩ := he
        obtain ⟨L, A, c, HL, rfl, hr⟩ := hown.rdv
        exact ⟨_, rfl, ⟨L, A, c, rfl, by rw [Hid, HL.out, ← be32_put], hr⟩, hb⟩⟩
    · obtain rfl := Option.some.inj hoo
      obtain ⟨L3, A3, c3, q3, HL3, r3⟩ := hd 3 (by kernel_rfl)
      obtain ⟨L6, A6, c6, q6, HL6, r6⟩ := hd 6 (by kernel_rfl)
      refine .inl ⟨wanted_none rfl, ?_⟩
      generalize hev : Act.eval _ = ev
      have ec : ∀ c, ev (.const c) = c := fun c => by rw [← hev]; rfl
      have ef : ∀ f, ev (.func f) = .func (.func f) #[] #[] := fun f => by rw [← hev]; rfl
      have e16 : ev (.tmp 16) = .slice A3 L3.length c3 := by rw [← hev]; exact (eval_put (by kernel_rfl) 31 rfl (by decide)).trans q3
      have e19 : ev (.tmp 19) = .slice A6 L6.length c6 := by rw [← hev]; exact (eval_put (by kernel_rfl) 31 rfl (by decide)).trans q6
      clear hev hd hold q3 q6
      exact .inr ⟨_, _, _, by go_simp, radd_any _ _ _ _ L3 L6 W r3 r6 (by rw [HL3.out, HL6.out]; simp [be32]), fun e w' he => by
        obtain ⟨v, rfl, hown, hb⟩ := he
        obtain ⟨L, A, c, HL, rfl, hr⟩ := hown.rdv
        exact ⟨_, rfl, ⟨L, A, c, rfl, by rw [Hid, HL.out, HL3.out, HL6.out], hr⟩, hb⟩⟩
    · obtain rfl := Option.some.inj hoo
      have q0 : uu 0 = .slice (some ⟨w.heap.size + 1, 0, none⟩) 8 8 := hd 0 (by kernel_rfl)
      obtain ⟨L7, A7, c7, q7, HL7, r7⟩ := hd 7 (by kernel_rfl)
      refine .inl ⟨wanted_none rfl, ?_⟩
      generalize hev : Act.eval _ = ev
      have ec : ∀ c, ev (.const c) = c := fun c => by rw [← hev]; rfl
      have ef : ∀ f, ev (.func f) = .func (.func f) #[] #[] := fun f => by rw [← hev]; rfl
      have e13 : ev (.tmp 13) = .slice (some ⟨w.heap.size + 1, 0, none⟩) 8 8 := by rw [← hev]; exact (eval_put (by kernel_rfl) 31 rfl (by decide)).trans q0
      have e20 : ev (.tmp 20) = .slice A7 L7.length c7 := by rw [← hev]; exact (eval_put (by kernel_rfl) 31 rfl (by decide)).trans q7
      clear hev hd hold q0 q7
      exact .inr ⟨_, _, _, by go_simp, radd_any (some ⟨w.heap.size + 1, 0, none⟩) _ 8 _ [0, 1, 8, 0, 6, 4, UInt8.ofNat (o.toNat / 256), UInt8.ofNat (o.toNat % 256)] L7 W (h8.next hVW) r7 (by rw [HL7.out]; simp [be32]), fun e w' he => by
        obtain ⟨v, rfl, hown, hb⟩ := he
        obtain ⟨L, A, c, HL, rfl, hr⟩ := hown.rdv
        exact ⟨_, rfl, ⟨L, A, c, rfl, by rw [Hid, HL.out, HL7.out], hr⟩, hb⟩⟩
    · obtain rfl := Option.some.inj hoo
      obtain ⟨L8, A8, c8, q8, HL8, r8⟩ := hd 8 (by kernel_rfl)
      refine .inl ⟨wanted_none rfl, ?_⟩
      generalize hev : Act.eval _ = ev
      have ec : ∀ c, ev (.const c) = c := fun c => by rw [← hev]; rfl
      have e21 : ev (.tmp 21) = .slice A8 L8.length c8 := by rw [← hev]; exact (eval_put (by kernel_rfl) 31 rfl (by decide)).trans q8
      clear hev hd hold q8
      exact .inl ⟨_, W, by go_simp, ⟨L8, A8, c8, rfl, HL8, r8⟩, Below.refl _ _⟩
    · simp at hoo
  · intro uu W hVW hall
    obtain ⟨LL, AA, cc, q9, HLL, hr⟩ : ∃ L A c, uu 9 = .slice A L.length c ∧ Hid (L = [0, 1, 8, 0, 6, 4, UInt8.ofNat (o.toNat / 256), UInt8.ofNat (o.toNat % 256)] ++ ([m0, m1, m2, m3, m4, m5] ++ be32 s)) ∧ Rd bv W W.heap.size A c L := hall 9 (by decide)
    have hB3 := hB2.trans (hVW.mono hB2.size)
    have HS3 : ∀ V, Below W.heap.size W V → (V.cell? ⟨w.heap.size, 0, none⟩ = some (.int .u16 (o.toNat : Int)) ∧ V.cell? ⟨w.heap.size, 1, none⟩ = some (.int .u8 (m0.toNat : Int)) ∧ V.cell? ⟨w.heap.size, 2, none⟩ = some (.int .u8 (m1.toNat : Int)) ∧ V.cell? ⟨w.heap.size, 3, none⟩ = some (.int .u8 (m2.toNat : Int)) ∧ V.cell? ⟨w.heap.size, 4, none⟩ = some (.int .u8 (m3.toNat : Int)) ∧ V.cell? ⟨w.heap.size, 5, none⟩ = some (.int .u8 (m4.toNat : Int)) ∧ V.cell? ⟨w.heap.size, 6, none⟩ = some (.int .u8 (m5.toNat : Int)) ∧ V.cell? ⟨w.heap.size, 7, none⟩ = some (.int .u32 (s.toNat : Int)) ∧ V.cell? ⟨w.heap.size, 8, none⟩ = some (.int .u8 (n0.toNat : Int)) ∧ V.cell? ⟨w.heap.size, 9, none⟩ = some (.int .u8 (n1.toNat : Int)) ∧ V.cell? ⟨w.heap.size, 10, none⟩ = some (.int .u8 (n2.toNat : Int)) ∧ V.cell? ⟨w.heap.size, 11, none⟩ = some (.int .u8 (n3.toNat : Int)) ∧ V.cell? ⟨w.heap.size, 12, none⟩ = some (.int .u8 (n4.toNat : Int)) ∧ V.cell? ⟨w.heap.size, 13, none⟩ = some (.int .u8 (n5.toNat : Int)) ∧ V.cell? ⟨w.heap.size, 14, none⟩ = some (.int .u32 (d.toNat : Int))) := fun V h => HS V (hVW.trans (h.mono hVW.size))
    clear hall hVW h8 HS hB2
    simp only [putAll, Act.put, Nat.reduceAdd, q9]
    simp only [List.setIfInBounds_toArray, List.set_cons_succ, List.set_cons_zero]
    clear q9
    go_wp2_with fail
    generalize W = W3 at *
    refine region_put (by kernel_rfl) (by kernel_rfl) (by kernel_rfl) 31 rfl (by kernel_rfl) W3 (fun i v W => match i with
        | 0 => v = .slice AA LL.length cc
        | 1 => v = .pointer (some ⟨w.heap.size, 8, none⟩)
        | 2 => v = .agg #[.int .u8 (n0.toNat : Int), .int .u8 (n1.toNat : Int), .int .u8 (n2.toNat : Int), .int .u8 (n3.toNat : Int), .int .u8 (n4.toNat : Int), .int .u8 (n5.toNat : Int)]
        | 3 => ∃ L A c, v = .slice A L.length c ∧ Hid (L = [n0, n1, n2, n3, n4, n5]) ∧ Rd bv W W.heap.size A c L
        | 4 => v = .pointer (some ⟨w.heap.size, 14, none⟩)
        | 5 => v = .int .u32 (d.toNat : Int)
        | 6 => ∃ L A c, v = .slice A L.length c ∧ Hid (L = be32 d) ∧ Rd bv W W.heap.size A c L
        | 7 => ∃ L A c, v = .slice A L.length c ∧ Hid (L = [n0, n1, n2, n3, n4, n5] ++ be32 d) ∧ Rd bv W W.heap.size A c L
        | 8 => ∃ L A c, v = .slice A L.length c ∧ Hid (L = arpB o m0 m1 m2 m3 m4 m5 s n0 n1 n2 n3 n4 n5 d) ∧ Rd bv W W.heap.size A c L
        | 9 => ∃ L A c, v = .slice A L.length c ∧ Hid (L = arpB o m0 m1 m2 m3 m4 m5 s n0 n1 n2 n3 n4 n5 d) ∧ Rd bv W W.heap.size A c L
        | _ => True) (Below.refl _ _) ?_ ?_ ?_
    · intro i v W W' h hb
      match i, h with
      | 0, h => exact h
      | 1, h => exact h
      | 2, h => exact h
      | 3, h => obtain ⟨L, A, c, h1, h2, h3⟩ := h; exact ⟨L, A, c, h1, h2, h3.next hb⟩
      | 4, h => exact h
      | 5, h => exact h
      | 6, h => obtain ⟨L, A, c, h1, h2, h3⟩ := h; exact ⟨L, A, c, h1, h2, h3.next hb⟩
      | 7, h => obtain ⟨L, A, c, h1, h2, h3⟩ := h; exact ⟨L, A, c, h1, h2, h3.next hb⟩
      | 8, h => obtain ⟨L, A, c, h1, h2, h3⟩ := h; exact ⟨L, A, c, h1, h2, h3.next hb⟩
      | 9, h => obtain ⟨L, A, c, h1, h2, h3⟩ := h; exact ⟨L, A, c, h1, h2, h3.next hb⟩
      | _ + 10, _ => trivial
    · intro i o uu W hoo hVW hd
      rcases i with _|_|_|_|_|_|_|_|_|_|i
      · obtain rfl := Option.some.inj hoo
        refine .inl ⟨wanted_none rfl, ?_⟩
        generalize hev : Act.eval _ = ev
        have ec : ∀ c, ev (.const c) = c := fun c => by rw [← hev]; rfl
        have e3 : ev (.tmp 3) = .slice AA LL.length cc := by rw [← hev]; exact eval_old (by kernel_rfl) 31 rfl (by decide) rfl
        clear hev hd
        exact .inl ⟨_, W, by go_simp, rfl, Below.refl _ _⟩
      · obtain rfl := Option.some.inj hoo
        refine .inl ⟨wanted_none rfl, ?_⟩
        generalize hev : Act.eval _ = ev
        have ec : ∀ c, ev (.const c) = c := fun c => by rw [← hev]; rfl
        have e1 : ev (.tmp 1) = .pointer (some ⟨w.heap.size, 0, none⟩) := by rw [← hev]; exact eval_old (by kernel_rfl) 31 rfl (by decide) rfl
        clear hev hd
        exact .inl ⟨_, W, by go_simp, rfl, Below.refl _ _⟩
      · obtain rfl := Option.some.inj hoo
        have q1 : uu 1 = .pointer (some ⟨w.heap.size, 8, none⟩) := hd 1 (by kernel_rfl)
        refine .inl ⟨wanted_none rfl, ?_⟩
        generalize hev : Act.eval _ = ev
        have ec : ∀ c, ev (.const c) = c := fun c => by rw [← hev]; rfl
        have e23 : ev (.tmp 23) = .pointer (some ⟨w.heap.size, 8, none⟩) := by rw [← hev]; exact (eval_put (by kernel_rfl) 31 rfl (by decide)).trans q1
        clear hev hd q1
        obtain ⟨cc0, cc1, cc2, cc3, cc4, cc5, cc6, cc7, cc8, cc9, cc10, cc11, cc12, cc13, cc14⟩ := HS3 W hVW
        exact .inl ⟨_, W, by go_simp, rfl, Below.refl _ _⟩
      · obtain rfl := Option.some.inj hoo
        have q2 : uu 2 = .agg #[.int .u8 (n0.toNat : Int), .int .u8 (n1.toNat : Int), .int .u8 (n2.toNat : Int), .int .u8 (n3.toNat : Int), .int .u8 (n4.toNat : Int), .int .u8 (n5.toNat : Int)] := hd 2 (by kernel_rfl)
        refine .inl ⟨wanted_none rfl, ?_⟩
        generalize hev : Act.eval _ = ev
        have ec : ∀ c, ev (.const c) = c := fun c => by rw [← hev]; rfl
        have ef : ∀ f, ev (.func f) = .func (.func f) #[] #[] := fun f => by rw [← hev]; rfl
        have e24 : ev (.tmp 24) = .agg #[.int .u8 (n0.toNat : Int), .int .u8 (n1.toNat : Int), .int .u8 (n2.toNat : Int), .int .u8 (n3.toNat : Int), .int .u8 (n4.toNat : Int), .int .u8 (n5.toNat : Int)] := by rw [← hev]; exact (eval_put (by kernel_rfl) 31 rfl (by decide)).trans q2
        clear hev hd q2
        exact .inr ⟨_, _, _, by go_simp, rmac_any n0 n1 n2 n3 n4 n5 W, fun e w' he => by
          obtain ⟨L, A, c, rfl, HL, hr, hb⟩ := he
          exact ⟨_, rfl, ⟨L, A, c, rfl, HL, hr⟩, hb⟩⟩
      · obtain rfl := Option.some.inj hoo
        refine .inl ⟨wanted_none rfl, ?_⟩
        generalize hev : Act.eval _ = ev
        have ec : ∀ c, ev (.const c) = c := fun c => by rw [← hev]; rfl
        have e1 : ev (.tmp 1) = .pointer (some ⟨w.heap.size, 0, none⟩) := by rw [← hev]; exact eval_old (by kernel_rfl) 31 rfl (by decide) rfl
        clear hev hd
        exact .inl ⟨_, W, by go_simp, rfl, Below.refl _ _⟩
      · obtain rfl := Option.some.inj hoo
        have q4 : uu 4 = .pointer (some ⟨w.heap.size, 14, none⟩) := hd 4 (by kernel_rfl)
        refine .inl ⟨wanted_none rfl, ?_⟩
        generalize hev : Act.eval _ = ev
        have ec : ∀ c, ev (.const c) = c := fun c => by rw [← hev]; rfl
        have e26 : ev (.tmp 26) = .pointer (some ⟨w.heap.size, 14, none⟩) := by rw [← hev]; exact (eval_put (by kernel_rfl) 31 rfl (by decide)).trans q4
        clear hev hd q4
        obtain ⟨cc0, cc1, cc2, cc3, cc4, cc5, cc6, cc7, cc8, cc9, cc10, cc11, cc12, cc13, cc14⟩ := HS3 W hVW
        exact .inl ⟨_, W, by go_simp, rfl, Below.refl _ _⟩
      · obtain rfl := Option.some.inj hoo
        have q5 : uu 5 = .int .u32 (d.toNat : Int) := hd 5 (by kernel_rfl)
        refine .inl ⟨wanted_none rfl, ?_⟩
        generalize hev : Act.eval _ = ev
        have ec : ∀ c, ev (.const c) = c := fun c => by rw [← hev]; rfl
        have ef : ∀ f, ev (.func f) = .func (.func f) #[] #[] := fun f => by rw [← hev]; rfl
        have e27 : ev (.tmp 27) = .int .u32 (d.toNat : Int) := by rw [← hev]; exact (eval_put (by kernel_rfl) 31 rfl (by decide)).trans q5
        clear hev hd q5
        exact .inr ⟨_, _, _, by go_simp, rput_any d.toNat 4 W (d.toNat_lt) (by omega), fun e w' he => by
          obtain ⟨v, rfl, hown, hb⟩ := he
          obtain ⟨L, A, c, HL, rfl, hr⟩ := hown.rdv
          exact ⟨_, rfl, ⟨L, A, c, rfl, by rw [Hid, HL.out, ← be32_put], hr⟩, hb⟩⟩
      · obtain rfl := Option.some.inj hoo
        obtain ⟨L3, A3, c3, q3, HL3, r3⟩ := hd 3 (by kernel_rfl)
        obtain ⟨L6, A6, c6, q6, HL6, r6⟩ := hd 6 (by kernel_rfl)
        refine .inl ⟨wanted_none rfl, ?_⟩
        generalize hev : Act.eval _ = ev
        have ec : ∀ c, ev (.const c) = c := fun c => by rw [← hev]; rfl
        have ef : ∀ f, ev (.func f) = .func (.func f) #[] #[] := fun f => by rw [← hev]; rfl
        have e25 : ev (.tmp 25) = .slice A3 L3.length c3 := by rw [← hev]; exact (eval_put (by kernel_rfl) 31 rfl (by decide)).trans q3
        have e28 : ev (.tmp 28) = .slice A6 L6.length c6 := by rw [← hev]; exact (eval_put (by kernel_rfl) 31 rfl (by decide)).trans q6
        clear hev hd q3 q6
        exact .inr ⟨_, _, _, by go_simp, radd_any _ _ _ _ L3 L6 W r3 r6 (by rw [HL3.out, HL6.out]; simp [be32]), fun e w' he => by
          obtain ⟨v, rfl, hown, hb⟩ := he
          obtain ⟨L, A, c, HL, rfl, hr⟩ := hown.rdv
          exact ⟨_, rfl, ⟨L, A, c, rfl, by rw [Hid, HL.out, HL3.out, HL6.out], hr⟩, hb⟩⟩
      · obtain rfl := Option.some.inj hoo
        have q0 : uu 0 = .slice AA LL.length cc := hd 0 (by kernel_rfl)
        obtain ⟨L7, A7, c7, q7, HL7, r7⟩ := hd 7 (by kernel_rfl)
        refine .inl ⟨wanted_none rfl, ?_⟩
        generalize hev : Act.eval _ = ev
        have ec : ∀ c, ev (.const c) = c := fun c => by rw [← hev]; rfl
        have ef : ∀ f, ev (.func f) = .func (.func f) #[] #[] := fun f => by rw [← hev]; rfl
        have e22 : ev (.tmp 22) = .slice AA LL.length cc := by rw [← hev]; exact (eval_put (by kernel_rfl) 31 rfl (by decide)).trans q0
        have e29 : ev (.tmp 29) = .slice A7 L7.length c7 := by rw [← hev]; exact (eval_put (by kernel_rfl) 31 rfl (by decide)).trans q7
        clear hev hd q0 q7
        exact .inr ⟨_, _, _, by go_simp, radd_any _ _ _ _ LL L7 W (hr.next hVW) r7 (by rw [HLL.out, HL7.out]; simp [be32]), fun e w' he => by
          obtain ⟨v, rfl, hown, hb⟩ := he
          obtain ⟨L, A, c, HL, rfl, hr⟩ := hown.rdv
          exact ⟨_, rfl, ⟨L, A, c, rfl, by rw [Hid, HL.out, HL7.out, HLL.out]; simp [arpB, be16], hr⟩, hb⟩⟩
      · obtain rfl := Option.some.inj hoo
        obtain ⟨L8, A8, c8, q8, HL8, r8⟩ := hd 8 (by kernel_rfl)
        refine .inl ⟨wanted_none rfl, ?_⟩
        generalize hev : Act.eval _ = ev
        have ec : ∀ c, ev (.const c) = c := fun c => by rw [← hev]; rfl
        have e30 : ev (.tmp 30) = .slice A8 L8.length c8 := by rw [← hev]; exact (eval_put (by kernel_rfl) 31 rfl (by decide)).trans q8
        clear hev hd q8
        exact .inl ⟨_, W, by go_simp, ⟨L8, A8, c8, rfl, HL8, r8⟩, Below.refl _ _⟩
      · simp at hoo
    · intro uu W hVW hall
      obtain ⟨L, A, c, q9, HL, hr2⟩ : ∃ L A c, uu 9 = .slice A L.length c ∧ Hid (L = arpB o m0 m1 m2 m3 m4 m5 s n0 n1 n2 n3 n4 n5 d) ∧ Rd bv W W.heap.size A c L := hall 9 (by decide)
      have hB := hB3.trans (hVW.mono hB3.size)
      clear hall HS3 hr
      simp only [putAll, Act.put, Nat.reduceAdd, q9]
      simp only [List.setIfInBounds_toArray, List.set_cons_succ, List.set_cons_zero]
      go_wp2_with fail
      go_ret
      exact ⟨L, A, c, rfl, HL, hr2, hB⟩

end Go.Proofs.Ytiokofpmmlbncab
