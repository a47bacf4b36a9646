/- Contract of splice.Bytes with its sum. -/
import Derived.Test.YtlceflfmdfoeiaaSpl6
import Derived.Test.YtlceflfmdfoeiaaSpl7a
namespace Go.Proofs.Ytlceflfmdfoeiaa
open Go.RowKit

theorem turn32_v (n : UInt16) (o x : UInt32) : ∃ n' : UInt16, 65535 - n'.toNat = T2 (65535 - n.toNat) o.toNat x.toNat ∧ ∀ W, Hid (Calls Try.prog 22 #[.int .u16 (n.toNat : Int), .int .u32 (o.toNat : Int), .int .u32 (x.toNat : Int)] W fun e w' => e = .returned (.int .u16 (n'.toNat : Int)) ∧ W = w') := by
  have h1 := n.toNat_lt
  have h2 := o.toNat_lt
  have h3 := x.toNat_lt
  have e : ∀ m, 65535 - (65535 - foldN m) = foldN m := fun m => by have := foldN_le m; omega
  refine ⟨UInt16.ofNat (65535 - foldN (65535 - (65535 - foldN (65535 - n.toNat + (65535 - o.toNat / 65536) + x.toNat / 65536)) + (65535 - o.toNat % 65536) + x.toNat % 65536)), ?_, fun W => Lib.hid ?_⟩
  · rw [UInt16.ofNat_id _ (by omega), e, e]
    rfl
  · rw [UInt16.ofNat_id _ (by omega)]
    exact turn32_any n.toNat o.toNat x.toNat W (by omega) (by omega) (by omega)
theorem turn_v (n : UInt16) (o x : UInt16) : ∃ n' : UInt16, 65535 - n'.toNat = T1 (65535 - n.toNat) o.toNat x.toNat ∧ ∀ W, Hid (Calls Try.prog 23 #[.int .u16 (n.toNat : Int), .int .u16 (o.toNat : Int), .int .u16 (x.toNat : Int)] W fun e w' => e = .returned (.int .u16 (n'.toNat : Int)) ∧ W = w') := by
  have h1 := n.toNat_lt
  have h2 := o.toNat_lt
  have h3 := x.toNat_lt
  have e : ∀ m, 65535 - (65535 - foldN m) = foldN m := fun m => by have := foldN_le m; omega
  refine ⟨UInt16.ofNat (65535 - foldN (65535 - n.toNat + (65535 - o.toNat) + x.toNat)), ?_, fun W => Lib.hid ?_⟩
  · rw [UInt16.ofNat_id _ (by omega), e]
    rfl
  · rw [UInt16.ofNat_id _ (by omega)]
    exact turn_any n.toNat o.toNat x.toNat W (by omega) (by omega) (by omega)

set_option maxHeartbeats 8000000 in
set_option maxRecDepth 10000 in
theorem sbytes_sum (s d : UInt32) (ts td : UInt32) (tp tp2 : UInt16) (tq tk : UInt32) (a b : UInt16) (q k : UInt32) (r f : UInt8) (z u : UInt16) (q2 k2 : UInt32) (A : Option Addr) (c : Nat) (B : List UInt8) (w : World) (hr : Rd bv w w.heap.size A c B) (x0 : UInt16) (hx0 : beN ((B.drop 16).take 2) = x0.toNat) (h20 : 20 ≤ B.length) (hl : B.length ≤ 100000)
    (HP : ∀ W, Rd bv W W.heap.size A c B → Hid (Calls Try.prog 20 #[.int .u32 (s.toNat : Int), .int .u32 (d.toNat : Int), .slice A B.length c] W fun e w' => ∃ (Lo : List UInt8) (Ao : Option Addr) (co : Nat) (Lx : List UInt8) (Ax : Option Addr) (cx : Nat), e = .returned (.tuple #[.agg #[.int .u16 (a.toNat : Int), .int .u16 (b.toNat : Int), .int .u32 (q.toNat : Int), .int .u32 (k.toNat : Int), .int .u8 (r.toNat : Int), .int .u8 (f.toNat : Int), .int .u16 (z.toNat : Int), .int .u16 (u.toNat : Int), .slice Ao Lo.length co, .slice Ax Lx.length cx], .int .i64 0]) ∧ Hid (Lo.length ≤ 1000 ∧ Lx.length ≤ 100000) ∧ Rd bv w' w'.heap.size Ao co Lo ∧ Rd bv w' w'.heap.size Ax cx Lx ∧ Below W.heap.size W w'))
    (HA : ∀ W Ao co Lo Ax cx Lx, Rd bv W W.heap.size Ao co Lo → Rd bv W W.heap.size Ax cx Lx → Hid (Lo.length ≤ 1000 ∧ Lx.length ≤ 100000) → Hid (Calls Try.prog 19 #[.agg #[.int .u32 (ts.toNat : Int), .int .u32 (td.toNat : Int), .int .u16 (tp.toNat : Int), .int .u16 (tp2.toNat : Int), .int .u32 (tq.toNat : Int), .int .u32 (tk.toNat : Int)], .agg #[.int .u16 (a.toNat : Int), .int .u16 (b.toNat : Int), .int .u32 (q.toNat : Int), .int .u32 (k.toNat : Int), .int .u8 (r.toNat : Int), .int .u8 (f.toNat : Int), .int .u16 (z.toNat : Int), .int .u16 (u.toNat : Int), .slice Ao Lo.length co, .slice Ax Lx.length cx]] W fun e w' => ∃ (M1 : List UInt8) (B1 : Option Addr) (d1 : Nat) (M2 : List UInt8) (B2 : Option Addr) (d2 : Nat), e = .returned (.agg #[.int .u16 (tp.toNat : Int), .int .u16 (tp2.toNat : Int), .int .u32 (q2.toNat : Int), .int .u32 (k2.toNat : Int), .int .u8 (r.toNat : Int), .int .u8 (f.toNat : Int), .int .u16 (z.toNat : Int), .int .u16 (u.toNat : Int), .slice B1 M1.length d1, .slice B2 M2.length d2]) ∧ Below W.heap.size W w')) :
    Calls Try.prog 8 #[.int .u32 (s.toNat : Int), .int .u32 (d.toNat : Int), .slice A B.length c, .agg #[.int .u32 (ts.toNat : Int), .int .u32 (td.toNat : Int), .int .u16 (tp.toNat : Int), .int .u16 (tp2.toNat : Int), .int .u32 (tq.toNat : Int), .int .u32 (tk.toNat : Int)]] w fun e w' => ∃ L A1 c1, e = .returned (.tuple #[.slice A1 L.length c1, .int .i64 0]) ∧ (∃ n : UInt16, 65535 - n.toNat = T2 (T2 (T1 (T1 (T2 (T2 (65535 - x0.toNat) s.toNat ts.toNat) d.toNat td.toNat) a.toNat tp.toNat) b.toNat tp2.toNat) q.toNat q2.toNat) k.toNat k2.toNat ∧ L = ((puts16 [tp, tp2] ++ (puts32 [q2, k2] ++ B.drop 12)).set 16 (UInt8.ofNat (n.toNat / 256))).set (16 + 1) (UInt8.ofNat (n.toNat % 256))) ∧ Rd bv w' w'.heap.size A1 c1 L ∧ Below w.heap.size w w' := by
  have hlc := hr.len
  have hcc := hr.cap
  obtain ⟨i0, hi0, hz0, hz1, hz2⟩ := info_parts info_u8
  obtain ⟨W1, hW1⟩ : ∃ W1, W1 = w.alloc (.cells #[.int .u32 (ts.toNat : Int), .int .u32 (td.toNat : Int), .int .u16 (tp.toNat : Int), .int .u16 (tp2.toNat : Int), .int .u32 (tq.toNat : Int), .int .u32 (tk.toNat : Int)] 28) := ⟨_, rfl⟩
  have hB : Below w.heap.size w W1 := by subst hW1; exact bnextA (Below.refl _ _) _
  have KT : Blk W1 w.heap.size [.int .u32 (ts.toNat : Int), .int .u32 (td.toNat : Int), .int .u16 (tp.toNat : Int), .int .u16 (tp2.toNat : Int), .int .u32 (tq.toNat : Int), .int .u32 (tk.toNat : Int)] 28 := by subst hW1; exact Blk.new _ _ _
  replace hr := hr.next hB
  have hdl : (B.drop 12).length = B.length - 12 := by simp
  go_enter Try.func8, Try.ntmps8
  go_wp2_with fail
  rw [← hW1]
  clear hW1
  refine (HP _ hr).out.mono ?_
  rintro e w2 ⟨Lo, Ao, co, Lx, Ax, cx, rfl, HL, ro, rx, hbel⟩
  replace hB := bnextA (bnext hB hbel) (.cells #[.int .u16 (a.toNat : Int), .int .u16 (b.toNat : Int), .int .u32 (q.toNat : Int), .int .u32 (k.toNat : Int), .int .u8 (r.toNat : Int), .int .u8 (f.toNat : Int), .int .u16 (z.toNat : Int), .int .u16 (u.toNat : Int), .slice Ao Lo.length co, .slice Ax Lx.length cx] 26)
  replace KT := (KT.next hbel).alloc (.cells #[.int .u16 (a.toNat : Int), .int .u16 (b.toNat : Int), .int .u32 (q.toNat : Int), .int .u32 (k.toNat : Int), .int .u8 (r.toNat : Int), .int .u8 (f.toNat : Int), .int .u16 (z.toNat : Int), .int .u16 (u.toNat : Int), .slice Ao Lo.length co, .slice Ax Lx.length cx] 26)
  replace hr := (hr.next hbel).nextA (.cells #[.int .u16 (a.toNat : Int), .int .u16 (b.toNat : Int), .int .u32 (q.toNat : Int), .int .u32 (k.toNat : Int), .int .u8 (r.toNat : Int), .int .u8 (f.toNat : Int), .int .u16 (z.toNat : Int), .int .u16 (u.toNat : Int), .slice Ao Lo.length co, .slice Ax Lx.length cx] 26)
  replace ro := ro.nextA (.cells #[.int .u16 (a.toNat : Int), .int .u16 (b.toNat : Int), .int .u32 (q.toNat : Int), .int .u32 (k.toNat : Int), .int .u8 (r.toNat : Int), .int .u8 (f.toNat : Int), .int .u16 (z.toNat : Int), .int .u16 (u.toNat : Int), .slice Ao Lo.length co, .slice Ax Lx.length cx] 26)
  replace rx := rx.nextA (.cells #[.int .u16 (a.toNat : Int), .int .u16 (b.toNat : Int), .int .u32 (q.toNat : Int), .int .u32 (k.toNat : Int), .int .u8 (r.toNat : Int), .int .u8 (f.toNat : Int), .int .u16 (z.toNat : Int), .int .u16 (u.toNat : Int), .slice Ao Lo.length co, .slice Ax Lx.length cx] 26)
  have KS := Blk.new w2 #[.int .u16 (a.toNat : Int), .int .u16 (b.toNat : Int), .int .u32 (q.toNat : Int), .int .u32 (k.toNat : Int), .int .u8 (r.toNat : Int), .int .u8 (f.toNat : Int), .int .u16 (z.toNat : Int), .int .u16 (u.toNat : Int), .slice Ao Lo.length co, .slice Ax Lx.length cx] 26
  clear hbel HP
  obtain ⟨p0, p1, p2, p3, p4, p5, -⟩ := KT.get6
  obtain ⟨t0, t1, t2, t3, t4, t5, t6, t7, t8, t9, -⟩ := KS.get10
  go_wp2_with fail
  clear p0 p1 p2 p3 p4 p5 t0 t1 t2 t3 t4 t5 t6 t7 t8 t9
  generalize w2.heap.size = gs at *
  generalize w2.alloc (.cells #[.int .u16 (a.toNat : Int), .int .u16 (b.toNat : Int), .int .u32 (q.toNat : Int), .int .u32 (k.toNat : Int), .int .u8 (r.toNat : Int), .int .u8 (f.toNat : Int), .int .u16 (z.toNat : Int), .int .u16 (u.toNat : Int), .slice Ao Lo.length co, .slice Ax Lx.length cx] 26) = V2 at *
  refine (HA _ _ _ _ _ _ _ ro rx HL).out.mono ?_
  rintro e w3 ⟨M1, B1, d1, M2, B2, d2, rfl, hbel⟩
  replace hB := bnextA (bnext hB hbel) (.cells #[.int .u16 (tp.toNat : Int), .int .u16 (tp2.toNat : Int), .int .u32 (q2.toNat : Int), .int .u32 (k2.toNat : Int), .int .u8 (r.toNat : Int), .int .u8 (f.toNat : Int), .int .u16 (z.toNat : Int), .int .u16 (u.toNat : Int), .slice B1 M1.length d1, .slice B2 M2.length d2] 26)
  replace KT := (KT.next hbel).alloc (.cells #[.int .u16 (tp.toNat : Int), .int .u16 (tp2.toNat : Int), .int .u32 (q2.toNat : Int), .int .u32 (k2.toNat : Int), .int .u8 (r.toNat : Int), .int .u8 (f.toNat : Int), .int .u16 (z.toNat : Int), .int .u16 (u.toNat : Int), .slice B1 M1.length d1, .slice B2 M2.length d2] 26)
  replace KS := (KS.next hbel).alloc (.cells #[.int .u16 (tp.toNat : Int), .int .u16 (tp2.toNat : Int), .int .u32 (q2.toNat : Int), .int .u32 (k2.toNat : Int), .int .u8 (r.toNat : Int), .int .u8 (f.toNat : Int), .int .u16 (z.toNat : Int), .int .u16 (u.toNat : Int), .slice B1 M1.length d1, .slice B2 M2.length d2] 26)
  replace hr := (hr.next hbel).nextA (.cells #[.int .u16 (tp.toNat : Int), .int .u16 (tp2.toNat : Int), .int .u32 (q2.toNat : Int), .int .u32 (k2.toNat : Int), .int .u8 (r.toNat : Int), .int .u8 (f.toNat : Int), .int .u16 (z.toNat : Int), .int .u16 (u.toNat : Int), .slice B1 M1.length d1, .slice B2 M2.length d2] 26)
  have KN := Blk.new w3 #[.int .u16 (tp.toNat : Int), .int .u16 (tp2.toNat : Int), .int .u32 (q2.toNat : Int), .int .u32 (k2.toNat : Int), .int .u8 (r.toNat : Int), .int .u8 (f.toNat : Int), .int .u16 (z.toNat : Int), .int .u16 (u.toNat : Int), .slice B1 M1.length d1, .slice B2 M2.length d2] 26
  clear hbel HA ro rx HL
  go_wp2_with fail
  generalize w3.heap.size = gn at *
  generalize w3.alloc (.cells #[.int .u16 (tp.toNat : Int), .int .u16 (tp2.toNat : Int), .int .u32 (q2.toNat : Int), .int .u32 (k2.toNat : Int), .int .u8 (r.toNat : Int), .int .u8 (f.toNat : Int), .int .u16 (z.toNat : Int), .int .u16 (u.toNat : Int), .slice B1 M1.length d1, .slice B2 M2.length d2] 26) = V3 at *
  refine (get16_b A c B 16 16 _ rfl _ hr (by omega) hx0).mono ?_
  rintro e V5 ⟨rfl, hbel⟩
  replace hB := bnext hB hbel
  replace KT := KT.next hbel
  replace KS := KS.next hbel
  replace KN := KN.next hbel
  replace hr := hr.next hbel
  clear hbel hx0
  obtain ⟨p0, p1, p2, p3, p4, p5, -⟩ := KT.get6
  obtain ⟨t0, t1, t2, t3, t4, t5, t6, t7, t8, t9, -⟩ := KS.get10
  obtain ⟨m0, m1, m2, m3, m4, m5, m6, m7, m8, m9, -⟩ := KN.get10
  obtain ⟨n0, hn0⟩ : ∃ n, x0 = n := ⟨_, rfl⟩
  rw [hn0]
  have hn0 := Lib.hid hn0
  obtain ⟨n1, hn1, HT⟩ := turn32_v n0 s ts
  have hn1 := Lib.hid hn1
  go_wp2_with fail
  refine (HT _).out.mono ?_
  rintro e w_n ⟨rfl, rfl⟩
  clear HT
  obtain ⟨n2, hn2, HT⟩ := turn32_v n1 d td
  have hn2 := Lib.hid hn2
  go_wp2_with fail
  refine (HT _).out.mono ?_
  rintro e w_n ⟨rfl, rfl⟩
  clear HT
  obtain ⟨n3, hn3, HT⟩ := turn_v n2 a tp
  have hn3 := Lib.hid hn3
  go_wp2_with fail
  refine (HT _).out.mono ?_
  rintro e w_n ⟨rfl, rfl⟩
  clear HT
  obtain ⟨n4, hn4, HT⟩ := turn_v n3 b tp2
  have hn4 := Lib.hid hn4
  go_wp2_with fail
  refine (HT _).out.mono ?_
  rintro e w_n ⟨rfl, rfl⟩
  clear HT
  obtain ⟨n5, hn5, HT⟩ := turn32_v n4 q q2
  have hn5 := Lib.hid hn5
  go_wp2_with fail
  refine (HT _).out.mono ?_
  rintro e w_n ⟨rfl, rfl⟩
  clear HT
  obtain ⟨n6, hn6, HT⟩ := turn32_v n5 k k2
  have hn6 := Lib.hid hn6
  go_wp2_with fail
  refine (HT _).out.mono ?_
  rintro e w_n ⟨rfl, rfl⟩
  clear HT
  obtain ⟨A12, c12, h12', hsl⟩ := hr.slice_l Try.underlying24 hi0 hz1 12 12 rfl (by omega)
  have HSL := hsl
  have h12 : ∀ W, Rd bv W W.heap.size A c B → Rd bv W W.heap.size A12 c12 (B.drop 12) := by
    intro W g
    obtain ⟨A13, c13, h13, hsl3⟩ := g.slice_l Try.underlying24 hi0 hz1 12 12 rfl (by omega)
    have he := (hsl W).symm.trans (hsl3 W)
    injection he with he
    injection he with e1 e2 e3
    subst e1 e3
    exact h13
  have HS : ∀ W, Below V5.heap.size V5 W → (W.cell? ⟨gn, 0, none⟩ = some (.int .u16 (tp.toNat : Int)) ∧ W.cell? ⟨gn, 1, none⟩ = some (.int .u16 (tp2.toNat : Int)) ∧ W.cell? ⟨gn, 2, none⟩ = some (.int .u32 (q2.toNat : Int)) ∧ W.cell? ⟨gn, 3, none⟩ = some (.int .u32 (k2.toNat : Int))) := fun W h => ⟨(KN.next h).cell 0, (KN.next h).cell 1, (KN.next h).cell 2, (KN.next h).cell 3⟩
  go_wp2_with fail
  clear p0 p1 p2 p3 p4 p5 t0 t1 t2 t3 t4 t5 t6 t7 t8 t9 m0 m1 m2 m3 m4 m5 m6 m7 m8 m9 hsl h12'
  refine region_put (by kernel_rfl) (by kernel_rfl) (by kernel_rfl) 91 rfl (by kernel_rfl) V5 (fun i v W => match i with
      | 0 => v = .pointer (some ⟨gn, 0, none⟩)
      | 1 => v = .int .u16 (tp.toNat : Int)
      | 2 => v = .pointer (some ⟨gn, 1, none⟩)
      | 3 => v = .int .u16 (tp2.toNat : Int)
      | 4 => ∃ A, v = .slice A 2 2 ∧ Rd hv W W.heap.size A 2 [tp, tp2]
      | 5 => ∃ L A c, v = .slice A L.length c ∧ Hid (L = puts16 [tp, tp2]) ∧ Rd bv W W.heap.size A c L
      | 6 => v = .pointer (some ⟨gn, 2, none⟩)
      | 7 => v = .int .u32 (q2.toNat : Int)
      | 8 => v = .pointer (some ⟨gn, 3, none⟩)
      | 9 => v = .int .u32 (k2.toNat : Int)
      | 10 => ∃ A, v = .slice A 2 2 ∧ Rd wv W W.heap.size A 2 [q2, k2]
      | 11 => ∃ L A c, v = .slice A L.length c ∧ Hid (L = puts32 [q2, k2]) ∧ Rd bv W W.heap.size A c L
      | 12 => v = .slice A B.length c
      | 13 => ∃ L A c, v = .slice A L.length c ∧ Hid (L = B.drop 12) ∧ Rd bv W W.heap.size A c L
      | 14 => ∃ g ls, v = .slice (some ⟨g, 0, none⟩) 3 3 ∧ Hid (ls.flatten = puts16 [tp, tp2] ++ (puts32 [q2, k2] ++ B.drop 12)) ∧ Hid (ls.length = 3) ∧ g < W.heap.size ∧ ∃ B, B ≤ W.heap.size ∧ Parts W B g ls
      | 15 => ∃ L A c, v = .slice A L.length c ∧ Hid (L = puts16 [tp, tp2] ++ (puts32 [q2, k2] ++ B.drop 12)) ∧ Rd bv W W.heap.size A c L
      | 16 => ∃ L A c, v = .slice A L.length c ∧ Hid (L = puts16 [tp, tp2] ++ (puts32 [q2, k2] ++ B.drop 12)) ∧ Rd bv W W.heap.size A c L
      | _ => True) (Below.refl _ _) ?_ ?_ ?_
  · intro i v W W' h hb
    match i, h with
    | 0, h => exact h
    | 1, h => exact h
    | 2, h => exact h
    | 3, h => exact h
    | 4, h => obtain ⟨A, h1, h2⟩ := h; exact ⟨A, h1, h2.next hb⟩
    | 5, h => obtain ⟨L, A, c, h1, h2, h3⟩ := h; exact ⟨L, A, c, h1, h2, h3.next hb⟩
    | 6, h => exact h
    | 7, h => exact h
    | 8, h => exact h
    | 9, h => exact h
    | 10, h => obtain ⟨A, h1, h2⟩ := h; exact ⟨A, h1, h2.next hb⟩
    | 11, h => obtain ⟨L, A, c, h1, h2, h3⟩ := h; exact ⟨L, A, c, h1, h2, h3.next hb⟩
    | 12, h => exact h
    | 13, h => obtain ⟨L, A, c, h1, h2, h3⟩ := h; exact ⟨L, A, c, h1, h2, h3.next hb⟩
    | 14, h => obtain ⟨g, ls, h1, h2, h3, h4, B, h5, h6⟩ := h; exact ⟨g, ls, h1, h2, h3, Nat.lt_of_lt_of_le h4 hb.size, B, Nat.le_trans h5 hb.size, h6.next h4 h5 hb⟩
    | 15, h => obtain ⟨L, A, c, h1, h2, h3⟩ := h; exact ⟨L, A, c, h1, h2, h3.next hb⟩
    | 16, h => obtain ⟨L, A, c, h1, h2, h3⟩ := h; exact ⟨L, A, c, h1, h2, h3.next hb⟩
    | _ + 17, _ => trivial
  · intro i o uu W hoo hVW hd
    rcases i with _|_|_|_|_|_|_|_|_|_|_|_|_|_|_|_|_|i
    · obtain rfl := Option.some.inj hoo
      refine .inl ⟨wanted_none rfl, ?_⟩
      generalize hev : Act.eval _ = ev
      have ec : ∀ c, ev (.const c) = c := fun c => by rw [← hev]; rfl
      have e12 : ev (.tmp 12) = .pointer (some ⟨gn, 0, none⟩) := by rw [← hev]; exact eval_old (by kernel_rfl) 91 rfl (by decide) rfl
      clear hev hd
      exact .inl ⟨_, W, by go_simp, rfl, Below.refl _ _⟩
    · obtain rfl := Option.some.inj hoo
      have q0 : uu 0 = .pointer (some ⟨gn, 0, none⟩) := hd 0 (by kernel_rfl)
      refine .inl ⟨wanted_none rfl, ?_⟩
      generalize hev : Act.eval _ = ev
      have ec : ∀ c, ev (.const c) = c := fun c => by rw [← hev]; rfl
      have e68 : ev (.tmp 68) = .pointer (some ⟨gn, 0, none⟩) := by rw [← hev]; exact (eval_put (by kernel_rfl) 91 rfl (by decide)).trans q0
      clear hev hd q0
      obtain ⟨cc0, cc1, cc2, cc3⟩ := HS W hVW
      exact .inl ⟨_, W, by go_simp, rfl, Below.refl _ _⟩
    · obtain rfl := Option.some.inj hoo
      refine .inl ⟨wanted_none rfl, ?_⟩
      generalize hev : Act.eval _ = ev
      have ec : ∀ c, ev (.const c) = c := fun c => by rw [← hev]; rfl
      have e12 : ev (.tmp 12) = .pointer (some ⟨gn, 0, none⟩) := by rw [← hev]; exact eval_old (by kernel_rfl) 91 rfl (by decide) rfl
      clear hev hd
      exact .inl ⟨_, W, by go_simp, rfl, Below.refl _ _⟩
    · obtain rfl := Option.some.inj hoo
      have q2 : uu 2 = .pointer (some ⟨gn, 1, none⟩) := hd 2 (by kernel_rfl)
      refine .inl ⟨wanted_none rfl, ?_⟩
      generalize hev : Act.eval _ = ev
      have ec : ∀ c, ev (.const c) = c := fun c => by rw [← hev]; rfl
      have e70 : ev (.tmp 70) = .pointer (some ⟨gn, 1, none⟩) := by rw [← hev]; exact (eval_put (by kernel_rfl) 91 rfl (by decide)).trans q2
      clear hev hd q2
      obtain ⟨cc0, cc1, cc2, cc3⟩ := HS W hVW
      exact .inl ⟨_, W, by go_simp, rfl, Below.refl _ _⟩
    · obtain rfl := Option.some.inj hoo
      have q1 : uu 1 = .int .u16 (tp.toNat : Int) := hd 1 (by kernel_rfl)
      have q3 : uu 3 = .int .u16 (tp2.toNat : Int) := hd 3 (by kernel_rfl)
      refine .inl ⟨wanted_none rfl, ?_⟩
      generalize hev : Act.eval _ = ev
      have ec : ∀ c, ev (.const c) = c := fun c => by rw [← hev]; rfl
      have e69 : ev (.tmp 69) = .int .u16 (tp.toNat : Int) := by rw [← hev]; exact (eval_put (by kernel_rfl) 91 rfl (by decide)).trans q1
      have e71 : ev (.tmp 71) = .int .u16 (tp2.toNat : Int) := by rw [← hev]; exact (eval_put (by kernel_rfl) 91 rfl (by decide)).trans q3
      clear hev hd q1 q3
      exact .inl ⟨_, W.alloc (.cells #[.int .u16 (tp.toNat : Int), .int .u16 (tp2.toNat : Int)] 23), by go_simp, ⟨_, rfl, lit16_at W _ [tp, tp2] rfl #[.int .u16 (tp.toNat : Int), .int .u16 (tp2.toNat : Int)] (rfl) _ (by simp)⟩, bnextA (Below.refl _ _) _⟩
    · obtain rfl := Option.some.inj hoo
      obtain ⟨A4, q4, r4⟩ := hd 4 (by kernel_rfl)
      refine .inl ⟨wanted_none rfl, ?_⟩
      generalize hev : Act.eval _ = ev
      have ec : ∀ c, ev (.const c) = c := fun c => by rw [← hev]; rfl
      have ef : ∀ f, ev (.func f) = .func (.func f) #[] #[] := fun f => by rw [← hev]; rfl
      have e72 : ev (.tmp 72) = .slice A4 2 2 := by rw [← hev]; exact (eval_put (by kernel_rfl) 91 rfl (by decide)).trans q4
      clear hev hd q4
      exact .inr ⟨_, _, _, by go_simp, put16_nil A4 2 [tp, tp2] W r4 (by simp), fun e w' he => by
        obtain ⟨L, A, c, rfl, HL, hr, hb⟩ := he
        exact ⟨_, rfl, ⟨L, A, c, rfl, HL, hr⟩, hb⟩⟩
    · obtain rfl := Option.some.inj hoo
      refine .inl ⟨wanted_none rfl, ?_⟩
      generalize hev : Act.eval _ = ev
      have ec : ∀ c, ev (.const c) = c := fun c => by rw [← hev]; rfl
      have e12 : ev (.tmp 12) = .pointer (some ⟨gn, 0, none⟩) := by rw [← hev]; exact eval_old (by kernel_rfl) 91 rfl (by decide) rfl
      clear hev hd
      exact .inl ⟨_, W, by go_simp, rfl, Below.refl _ _⟩
    · obtain rfl := Option.some.inj hoo
      have q6 : uu 6 = .pointer (some ⟨gn, 2, none⟩) := hd 6 (by kernel_rfl)
      refine .inl ⟨wanted_none rfl, ?_⟩
      generalize hev : Act.eval _ = ev
      have ec : ∀ c, ev (.const c) = c := fun c => by rw [← hev]; rfl
      have e74 : ev (.tmp 74) = .pointer (some ⟨gn, 2, none⟩) := by rw [← hev]; exact (eval_put (by kernel_rfl) 91 rfl (by decide)).trans q6
      clear hev hd q6
      obtain ⟨cc0, cc1, cc2, cc3⟩ := HS W hVW
      exact .inl ⟨_, W, by go_simp, rfl, Below.refl _ _⟩
    · obtain rfl := Option.some.inj hoo
      refine .inl ⟨wanted_none rfl, ?_⟩
      generalize hev : Act.eval _ = ev
      have ec : ∀ c, ev (.const c) = c := fun c => by rw [← hev]; rfl
      have e12 : ev (.tmp 12) = .pointer (some ⟨gn, 0, none⟩) := by rw [← hev]; exact eval_old (by kernel_rfl) 91 rfl (by decide) rfl
      clear hev hd
      exact .inl ⟨_, W, by go_simp, rfl, Below.refl _ _⟩
    · obtain rfl := Option.some.inj hoo
      have q8 : uu 8 = .pointer (some ⟨gn, 3, none⟩) := hd 8 (by kernel_rfl)
      refine .inl ⟨wanted_none rfl, ?_⟩
      generalize hev : Act.eval _ = ev
      have ec : ∀ c, ev (.const c) = c := fun c => by rw [← hev]; rfl
      have e76 : ev (.tmp 76) = .pointer (some ⟨gn, 3, none⟩) := by rw [← hev]; exact (eval_put (by kernel_rfl) 91 rfl (by decide)).trans q8
      clear hev hd q8
      obtain ⟨cc0, cc1, cc2, cc3⟩ := HS W hVW
      exact .inl ⟨_, W, by go_simp, rfl, Below.refl _ _⟩
    · obtain rfl := Option.some.inj hoo
      have q7 : uu 7 = .int .u32 (q2.toNat : Int) := hd 7 (by kernel_rfl)
      have q9 : uu 9 = .int .u32 (k2.toNat : Int) := hd 9 (by kernel_rfl)
      refine .inl ⟨wanted_none rfl, ?_⟩
      generalize hev : Act.eval _ = ev
      have ec : ∀ c, ev (.const c) = c := fun c => by rw [← hev]; rfl
      have e75 : ev (.tmp 75) = .int .u32 (q2.toNat : Int) := by rw [← hev]; exact (eval_put (by kernel_rfl) 91 rfl (by decide)).trans q7
      have e77 : ev (.tmp 77) = .int .u32 (k2.toNat : Int) := by rw [← hev]; exact (eval_put (by kernel_rfl) 91 rfl (by decide)).trans q9
      clear hev hd q7 q9
      exact .inl ⟨_, W.alloc (.cells #[.int .u32 (q2.toNat : Int), .int .u32 (k2.toNat : Int)] 22), by go_simp, ⟨_, rfl, lit32_at W _ [q2, k2] rfl #[.int .u32 (q2.toNat : Int), .int .u32 (k2.toNat : Int)] (rfl) _ (by simp)⟩, bnextA (Below.refl _ _) _⟩
    · obtain rfl := Option.some.inj hoo
      obtain ⟨A10, q10, r10⟩ := hd 10 (by kernel_rfl)
      refine .inl ⟨wanted_none rfl, ?_⟩
      generalize hev : Act.eval _ = ev
      have ec : ∀ c, ev (.const c) = c := fun c => by rw [← hev]; rfl
      have ef : ∀ f, ev (.func f) = .func (.func f) #[] #[] := fun f => by rw [← hev]; rfl
      have e78 : ev (.tmp 78) = .slice A10 2 2 := by rw [← hev]; exact (eval_put (by kernel_rfl) 91 rfl (by decide)).trans q10
      clear hev hd q10
      exact .inr ⟨_, _, _, by go_simp, put32_nil A10 2 [q2, k2] W r10 (by simp), fun e w' he => by
        obtain ⟨L, A, c, rfl, HL, hr, hb⟩ := he
        exact ⟨_, rfl, ⟨L, A, c, rfl, HL, hr⟩, hb⟩⟩
    · obtain rfl := Option.some.inj hoo
      refine .inl ⟨wanted_none rfl, ?_⟩
      generalize hev : Act.eval _ = ev
      have ec : ∀ c, ev (.const c) = c := fun c => by rw [← hev]; rfl
      have e2 : ev (.tmp 2) = .slice A B.length c := by rw [← hev]; exact eval_old (by kernel_rfl) 91 rfl (by decide) rfl
      clear hev hd
      exact .inl ⟨_, W, by go_simp, rfl, Below.refl _ _⟩
    · obtain rfl := Option.some.inj hoo
      have q12 : uu 12 = .slice A B.length c := hd 12 (by kernel_rfl)
      refine .inl ⟨wanted_none rfl, ?_⟩
      generalize hev : Act.eval _ = ev
      have ec : ∀ c, ev (.const c) = c := fun c => by rw [← hev]; rfl
      have e80 : ev (.tmp 80) = .slice A B.length c := by rw [← hev]; exact (eval_put (by kernel_rfl) 91 rfl (by decide)).trans q12
      clear hev hd q12
      have hsl := HSL W
      exact .inl ⟨.slice A12 (B.length - 12) c12, W, by go_simp, ⟨(B.drop 12), A12, c12, by rw [hdl], Lib.hid rfl, ((h12 W (hr.next hVW)))⟩, Below.refl _ _⟩
    · obtain rfl := Option.some.inj hoo
      obtain ⟨L5, A5, c5, q5, HL5, r5⟩ := hd 5 (by kernel_rfl)
      obtain ⟨L11, A11, c11, q11, HL11, r11⟩ := hd 11 (by kernel_rfl)
      obtain ⟨L13, A13, c13, q13, HL13, r13⟩ := hd 13 (by kernel_rfl)
      refine .inl ⟨wanted_none rfl, ?_⟩
      generalize hev : Act.eval _ = ev
      have ec : ∀ c, ev (.const c) = c := fun c => by rw [← hev]; rfl
      have e73 : ev (.tmp 73) = .slice A5 L5.length c5 := by rw [← hev]; exact (eval_put (by kernel_rfl) 91 rfl (by decide)).trans q5
      have e79 : ev (.tmp 79) = .slice A11 L11.length c11 := by rw [← hev]; exact (eval_put (by kernel_rfl) 91 rfl (by decide)).trans q11
      have e81 : ev (.tmp 81) = .slice A13 L13.length c13 := by rw [← hev]; exact (eval_put (by kernel_rfl) 91 rfl (by decide)).trans q13
      clear hev hd q5 q11 q13
      exact .inl ⟨_, W.alloc (.cells #[.slice A5 L5.length c5, .slice A11 L11.length c11, .slice A13 L13.length c13] 24), by go_simp, ⟨W.heap.size, [L5, L11, L13], rfl, by rw [Hid, HL5.out, HL11.out, HL13.out]; simp, rfl, by simp, W.heap.size, by simp, parts_at _ rfl (.cons r5 (.cons r11 (.cons r13 .nil))) _ rfl _⟩, bnextA (Below.refl _ _) _⟩
    · obtain rfl := Option.some.inj hoo
      obtain ⟨g14, ls14, q14, HF14, HN14, hg14, B14, hB14, hP14⟩ := hd 14 (by kernel_rfl)
      refine .inl ⟨wanted_none rfl, ?_⟩
      generalize hev : Act.eval _ = ev
      have ec : ∀ c, ev (.const c) = c := fun c => by rw [← hev]; rfl
      have ef : ∀ f, ev (.func f) = .func (.func f) #[] #[] := fun f => by rw [← hev]; rfl
      have e82 : ev (.tmp 82) = .slice (some ⟨g14, 0, none⟩) 3 3 := by rw [← hev]; exact (eval_put (by kernel_rfl) 91 rfl (by decide)).trans q14
      clear hev hd q14
      exact .inr ⟨_, _, _, by go_simp, join_any W B14 g14 3 ls14 hP14 HN14.out (by omega) (by omega) (by rw [HF14.out]; simp [puts16, puts32, be16, be32]; omega), fun e w' he => by
        obtain ⟨L, A, c, rfl, HL, hr, hb⟩ := he
        exact ⟨_, rfl, ⟨L, A, c, rfl, by rw [Hid, HL.out, HF14.out], hr⟩, hb⟩⟩
    · obtain rfl := Option.some.inj hoo
      obtain ⟨L15, A15, c15, q15, HL15, r15⟩ := hd 15 (by kernel_rfl)
      refine .inl ⟨wanted_none rfl, ?_⟩
      generalize hev : Act.eval _ = ev
      have ec : ∀ c, ev (.const c) = c := fun c => by rw [← hev]; rfl
      have e83 : ev (.tmp 83) = .slice A15 L15.length c15 := by rw [← hev]; exact (eval_put (by kernel_rfl) 91 rfl (by decide)).trans q15
      clear hev hd q15
      exact .inl ⟨_, W, by go_simp, ⟨L15, A15, c15, rfl, HL15, r15⟩, Below.refl _ _⟩
    · simp at hoo
  · intro uu W hVW hall
    have q16 : ∃ L A c, uu 16 = .slice A L.length c ∧ Hid (L = puts16 [tp, tp2] ++ (puts32 [q2, k2] ++ B.drop 12)) ∧ Rd bv W W.heap.size A c L := hall 16 (by decide)
    obtain ⟨L8, A8, c8, q16, HL8, r8⟩ := q16
    replace hB := hB.trans (hVW.mono hB.size)
    clear hall HS hVW hr HSL
    simp only [putAll, Act.put, Nat.reduceAdd, q16]
    simp only [List.setIfInBounds_toArray, List.set_cons_succ, List.set_cons_zero]
    clear q16
    have HSET := Lib.hid (set16_yes A8 c8 L8 16 n6 W r8 (by rw [HL8.out]; simp [puts16, puts32, be16, be32]; omega) (by rw [HL8.out]; simp [puts16, puts32, be16, be32]; omega))
    go_wp2_with fail
    refine HSET.out.mono ?_
    rintro e w9 ⟨v9, rfl, hown, hbel⟩
    obtain ⟨L9, A9, c9, HL9, rfl, r9⟩ := hown.rdv
    replace hB := bnext hB hbel
    clear hown hbel HSET r8
    go_wp2_with fail
    go_ret2
    exact ⟨L9, A9, c9, rfl, ⟨n6, by rw [hn6.out, hn5.out, hn4.out, hn3.out, hn2.out, hn1.out, ← hn0.out], by rw [HL9.out, HL8.out]⟩, r9, hB⟩

end Go.Proofs.Ytlceflfmdfoeiaa
