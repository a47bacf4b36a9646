/- Contracts of the reference's bytes and Put of segments. -/
import Derived.Test.YtlceflfmdfoeiaaTcp2
namespace Go.Proofs.Ytlceflfmdfoeiaa
open Go.RowKit

theorem rtb_eq (a b : UInt16) (q k : UInt32) (h f : UInt8) (z u : UInt16) (x : Nat) (hx : x ≤ 65535) (os xs : List UInt8) :
    (([UInt8.ofNat (a.toNat / 256), UInt8.ofNat (a.toNat % 256), UInt8.ofNat (b.toNat / 256), UInt8.ofNat (b.toNat % 256)] ++ (be32 q ++ be32 k)) ++ [h, f, UInt8.ofNat (z.toNat / 256), UInt8.ofNat (z.toNat % 256), UInt8.ofNat (x / 256), UInt8.ofNat (x % 256), UInt8.ofNat (u.toNat / 256), UInt8.ofNat (u.toNat % 256)]) ++ (os ++ xs) = tb a b q k h f z u x os xs := by
  rw [tb, be16_ofNat x hx]
  simp [be16]
set_option maxHeartbeats 2000000 in
theorem rtbytes_any (a b : UInt16) (q k : UInt32) (r f : UInt8) (z u : UInt16) (A1 A2 : Option Addr) (c1 c2 : Nat) (os xs : List UInt8) (x : Nat) (hxx : x ≤ 65535) (w : World) (ho : Rd bv w w.heap.size A1 c1 os) (hx : Rd bv w w.heap.size A2 c2 xs) (h1 : r.toNat ≤ 15) (h2 : os.length ≤ 40) (h4 : 20 + os.length + xs.length ≤ 65535) (h : UInt8) (hh : h.toNat = (5 + os.length / 4) * 16 + r.toNat) :
    Calls Try.prog 15 #[.agg #[.int .u16 (a.toNat : Int), .int .u16 (b.toNat : Int), .int .u32 (q.toNat : Int), .int .u32 (k.toNat : Int), .int .u8 (r.toNat : Int), .int .u8 (f.toNat : Int), .int .u16 (z.toNat : Int), .int .u16 (u.toNat : Int), .slice A1 os.length c1, .slice A2 xs.length c2], .int .i64 (x : Int)] w fun e w' => ∃ L A' c', e = .returned (.slice A' L.length c') ∧ Hid (L = tb a b q k h f z u x os xs) ∧ Rd bv w' w'.heap.size A' c' L ∧ Below w.heap.size w w' := by
  obtain ⟨W1, hW1⟩ : ∃ W1, W1 = w.alloc (.cells #[.int .u16 (a.toNat : Int), .int .u16 (b.toNat : Int), .int .u32 (q.toNat : Int), .int .u32 (k.toNat : Int), .int .u8 (r.toNat : Int), .int .u8 (f.toNat : Int), .int .u16 (z.toNat : Int), .int .u16 (u.toNat : Int), .slice A1 os.length c1, .slice A2 xs.length c2] 26) := ⟨_, rfl⟩
  have hB1 : Below w.heap.size w W1 := by subst hW1; exact bnextA (Below.refl _ _) _
  have hK1 : Blk W1 w.heap.size [.int .u16 (a.toNat : Int), .int .u16 (b.toNat : Int), .int .u32 (q.toNat : Int), .int .u32 (k.toNat : Int), .int .u8 (r.toNat : Int), .int .u8 (f.toNat : Int), .int .u16 (z.toNat : Int), .int .u16 (u.toNat : Int), .slice A1 os.length c1, .slice A2 xs.length c2] 26 := by subst hW1; exact Blk.new _ _ _
  have HS : ∀ W, Below W1.heap.size W1 W → (W.cell? ⟨w.heap.size, 0, none⟩ = some (.int .u16 (a.toNat : Int)) ∧ W.cell? ⟨w.heap.size, 1, none⟩ = some (.int .u16 (b.toNat : Int)) ∧ W.cell? ⟨w.heap.size, 2, none⟩ = some (.int .u32 (q.toNat : Int)) ∧ W.cell? ⟨w.heap.size, 3, none⟩ = some (.int .u32 (k.toNat : Int)) ∧ W.cell? ⟨w.heap.size, 4, none⟩ = some (.int .u8 (r.toNat : Int)) ∧ W.cell? ⟨w.heap.size, 5, none⟩ = some (.int .u8 (f.toNat : Int)) ∧ W.cell? ⟨w.heap.size, 6, none⟩ = some (.int .u16 (z.toNat : Int)) ∧ W.cell? ⟨w.heap.size, 7, none⟩ = some (.int .u16 (u.toNat : Int)) ∧ W.cell? ⟨w.heap.size, 8, none⟩ = some (.slice A1 os.length c1) ∧ W.cell? ⟨w.heap.size, 9, none⟩ = some (.slice A2 xs.length c2)) := by
    intro W h
    obtain ⟨p0, p1, p2, p3, p4, p5, p6, p7, p8, p9, -⟩ := (hK1.next h).get10
    exact ⟨p0, p1, p2, p3, p4, p5, p6, p7, p8, p9⟩
  have hB2 := bnextA hB1 (.cells #[.int .u8 ((a.toNat : Int) / 256), .int .u8 ((a.toNat : Int) % 256), .int .u8 ((b.toNat : Int) / 256), .int .u8 ((b.toNat : Int) % 256)] 5)
  replace ho := ho.next hB2
  replace hx := hx.next hB2
  have ha := a.toNat_lt
  have hb := b.toNat_lt
  have hz := z.toNat_lt
  have hu := u.toNat_lt
  have hsz : w.heap.size + 1 = W1.heap.size := by subst hW1; simp
  have hb4 := lit_at W1 (w.heap.size + 1) [UInt8.ofNat (a.toNat / 256), UInt8.ofNat (a.toNat % 256), UInt8.ofNat (b.toNat / 256), UInt8.ofNat (b.toNat % 256)] hsz #[.int .u8 ((a.toNat : Int) / 256), .int .u8 ((a.toNat : Int) % 256), .int .u8 ((b.toNat : Int) / 256), .int .u8 ((b.toNat : Int) % 256)] (by simp [bv]; omega) 5 (by simp)
  replace hK1 := hK1.alloc (.cells #[.int .u8 ((a.toNat : Int) / 256), .int .u8 ((a.toNat : Int) % 256), .int .u8 ((b.toNat : Int) / 256), .int .u8 ((b.toNat : Int) % 256)] 5)
  clear HS hsz
  go_enter Try.func15, Try.ntmps15
  go_wp2_with fail
  rw [← hW1]
  clear hW1
  have hBV := hB2
  generalize hV : W1.alloc (.cells #[.int .u8 ((a.toNat : Int) / 256), .int .u8 ((a.toNat : Int) % 256), .int .u8 ((b.toNat : Int) / 256), .int .u8 ((b.toNat : Int) % 256)] 5) = V at hBV ho hx hb4 hK1 ⊢
  clear hV hB2 hB1
  have HS : ∀ W, Below V.heap.size V W → (W.cell? ⟨w.heap.size, 0, none⟩ = some (.int .u16 (a.toNat : Int)) ∧ W.cell? ⟨w.heap.size, 1, none⟩ = some (.int .u16 (b.toNat : Int)) ∧ W.cell? ⟨w.heap.size, 2, none⟩ = some (.int .u32 (q.toNat : Int)) ∧ W.cell? ⟨w.heap.size, 3, none⟩ = some (.int .u32 (k.toNat : Int)) ∧ W.cell? ⟨w.heap.size, 4, none⟩ = some (.int .u8 (r.toNat : Int)) ∧ W.cell? ⟨w.heap.size, 5, none⟩ = some (.int .u8 (f.toNat : Int)) ∧ W.cell? ⟨w.heap.size, 6, none⟩ = some (.int .u16 (z.toNat : Int)) ∧ W.cell? ⟨w.heap.size, 7, none⟩ = some (.int .u16 (u.toNat : Int)) ∧ W.cell? ⟨w.heap.size, 8, none⟩ = some (.slice A1 os.length c1) ∧ W.cell? ⟨w.heap.size, 9, none⟩ = some (.slice A2 xs.length c2)) := by
    intro W h
    obtain ⟨p0, p1, p2, p3, p4, p5, p6, p7, p8, p9, -⟩ := (hK1.next h).get10
    exact ⟨p0, p1, p2, p3, p4, p5, p6, p7, p8, p9⟩
  have HS2 : ∀ W, Below V.heap.size V W → (W.cell? ⟨w.heap.size, 0, none⟩ = some (.int .u16 (a.toNat : Int)) ∧ W.cell? ⟨w.heap.size, 1, none⟩ = some (.int .u16 (b.toNat : Int)) ∧ W.cell? ⟨w.heap.size, 2, none⟩ = some (.int .u32 (q.toNat : Int)) ∧ W.cell? ⟨w.heap.size, 3, none⟩ = some (.int .u32 (k.toNat : Int)) ∧ W.cell? ⟨w.heap.size, 4, none⟩ = some (.int .u8 (r.toNat : Int)) ∧ W.cell? ⟨w.heap.size, 5, none⟩ = some (.int .u8 (f.toNat : Int)) ∧ W.cell? ⟨w.heap.size, 6, none⟩ = some (.int .u16 (z.toNat : Int)) ∧ W.cell? ⟨w.heap.size, 7, none⟩ = some (.int .u16 (u.toNat : Int)) ∧ W.cell? ⟨w.heap.size, 8, none⟩ = some (.slice A1 os.length c1) ∧ W.cell? ⟨w.heap.size, 9, none⟩ = some (.slice A2 xs.length c2) ∧ Below V.heap.size V W) := by
    intro W h
    obtain ⟨p0, p1, p2, p3, p4, p5, p6, p7, p8, p9⟩ := HS _ h
    exact ⟨p0, p1, p2, p3, p4, p5, p6, p7, p8, p9, h⟩
  have HPQ : ∀ W, Hid (Calls Try.prog 32 #[.int .u32 (q.toNat : Int), .int .i64 4] W fun e w' => ∃ v, e = .returned v ∧ Own bv w' W.heap.size 5 v (putN 4 q.toNat) ∧ Below W.heap.size W w') := fun W => rput_any q.toNat 4 W (q.toNat_lt) (by omega)
  have HPK : ∀ W, Hid (Calls Try.prog 32 #[.int .u32 (k.toNat : Int), .int .i64 4] W fun e w' => ∃ v, e = .returned v ∧ Own bv w' W.heap.size 5 v (putN 4 k.toNat) ∧ Below W.heap.size W w') := fun W => rput_any k.toNat 4 W (k.toNat_lt) (by omega)
  go_region_held3 (fun W => W.cell? ⟨w.heap.size, 0, none⟩ = some (.int .u16 (a.toNat : Int)) ∧ W.cell? ⟨w.heap.size, 1, none⟩ = some (.int .u16 (b.toNat : Int)) ∧ W.cell? ⟨w.heap.size, 2, none⟩ = some (.int .u32 (q.toNat : Int)) ∧ W.cell? ⟨w.heap.size, 3, none⟩ = some (.int .u32 (k.toNat : Int)) ∧ W.cell? ⟨w.heap.size, 4, none⟩ = some (.int .u8 (r.toNat : Int)) ∧ W.cell? ⟨w.heap.size, 5, none⟩ = some (.int .u8 (f.toNat : Int)) ∧ W.cell? ⟨w.heap.size, 6, none⟩ = some (.int .u16 (z.toNat : Int)) ∧ W.cell? ⟨w.heap.size, 7, none⟩ = some (.int .u16 (u.toNat : Int)) ∧ W.cell? ⟨w.heap.size, 8, none⟩ = some (.slice A1 os.length c1) ∧ W.cell? ⟨w.heap.size, 9, none⟩ = some (.slice A2 xs.length c2) ∧ Below V.heap.size V W)
    (first
      | exact HS2 _ hq4
      | exact HS2 _ hq3
      | exact HS2 _ hq2
      | exact HS2 _ hq1
      | exact HS2 _ (Below.refl _ _).drew
      | exact HS2 _ (Below.refl _ _))
    (first
      | (go_at_call 32; go_split_ands; (with_reducible refine (HPQ _).out.mono ?_); rintro e w1 ⟨v1, rfl, hown, hbel⟩; obtain ⟨L1, B1, d1, HL1, rfl, r1⟩ := hown.rdv; have hq1 : Below V.heap.size V w1 := Below.undrew hbel; clear hown HPQ)
      | (go_at_call 32; go_split_ands; (with_reducible refine (HPK _).out.mono ?_); rintro e w2 ⟨v2, rfl, hown, hbel⟩; obtain ⟨L2, B2, d2, HL2, rfl, r2⟩ := hown.rdv; have hq2 := bnext hq1 hbel; have r1' := r1.next hbel; clear hown HPK)
      | (go_at_call 17; go_split_ands; (with_reducible refine (radd_any _ _ _ _ L1 L2 _ r1' r2 (by rw [HL1.out, HL2.out]; simp [putN_len])).mono ?_); rintro e w3 ⟨v3, rfl, hown, hbel⟩; obtain ⟨L3, B3, d3, HL3, rfl, r3⟩ := hown.rdv; have hq3 := bnext hq2 hbel; clear hown)
      | (go_at_call 17; go_split_ands; go_loud (refine (radd_any (some ⟨w.heap.size + 1, 0, none⟩) _ 4 _ [UInt8.ofNat (a.toNat / 256), UInt8.ofNat (a.toNat % 256), UInt8.ofNat (b.toNat / 256), UInt8.ofNat (b.toNat % 256)] L3 _ (hb4.next hq3) r3 (by rw [HL3.out, HL1.out, HL2.out]; simp [putN_len])).mono ?_); rintro e W ⟨v4, rfl, hown, hbel⟩; obtain ⟨L, A, c, HL0, rfl, hr⟩ := hown.rdv; have hq4 := bnext hq3 hbel; clear hown)
      | fail)
  have hVW := hq4
  have HL : Hid (L = [UInt8.ofNat (a.toNat / 256), UInt8.ofNat (a.toNat % 256), UInt8.ofNat (b.toNat / 256), UInt8.ofNat (b.toNat % 256)] ++ (be32 q ++ be32 k)) := by rw [Hid, HL0.out, HL3.out, HL1.out, HL2.out, be32_put, be32_put]
  clear HL0 HL1 HL2 HL3 r1 r2 r3 r1' hq1 hq2 hq3 hq4
  have hB := hBV.trans (hVW.mono hBV.size)
  obtain ⟨p0, p1, p2, p3, p4, p5, p6, p7, p8, p9⟩ := HS _ hVW
  replace ho := ho.next hVW
  replace hx := hx.next hVW
  clear hb4
  go_wp2_with fail
  refine (radd_any _ _ _ _ L [h, f, UInt8.ofNat (z.toNat / 256), UInt8.ofNat (z.toNat % 256), UInt8.ofNat (x / 256), UInt8.ofNat (x % 256), UInt8.ofNat (u.toNat / 256), UInt8.ofNat (u.toNat % 256)] _ (hr.nextA _) (lit_at _ _ _ rfl _ (by simp [bv]; omega) _ (by simp)) (by rw [HL.out]; simp [be32])).mono ?_
  rintro e w1 ⟨v1, rfl, hown, hbel⟩
  obtain ⟨L1, B1, d1, HL1, rfl, r1⟩ := hown.rdv
  have hVW2 := bnext (bnextA hVW _) hbel
  replace hB := bnext (bnextA hB _) hbel
  replace ho := (ho.nextA _).next hbel
  replace hx := (hx.nextA _).next hbel
  clear hown hbel hr p0 p1 p2 p3 p4 p5 p6 p7 p8 p9
  obtain ⟨p0, p1, p2, p3, p4, p5, p6, p7, p8, p9⟩ := HS _ hVW2
  clear HS
  go_wp2_with fail
  refine (radd_any _ _ _ _ os xs _ ho hx (by omega)).mono ?_
  rintro e w2 ⟨v2, rfl, hown, hbel⟩
  obtain ⟨L2, B2, d2, HL2, rfl, r2⟩ := hown.rdv
  replace hB := bnext hB hbel
  replace r1 := r1.next hbel
  clear hown hbel ho hx
  go_wp2_with fail
  refine (radd_any _ _ _ _ L1 L2 _ r1 r2 (by rw [HL1.out, HL2.out, HL.out]; simp [be32]; omega)).mono ?_
  rintro e w3 ⟨v3, rfl, hown, hbel⟩
  obtain ⟨L3, B3, d3, HL3, rfl, r3⟩ := hown.rdv
  replace hB := bnext hB hbel
  clear hown hbel
  go_wp2_with fail
  go_ret
  exact ⟨L3, B3, d3, rfl, by rw [Hid, HL3.out, HL1.out, HL2.out, HL.out]; exact rtb_eq a b q k h f z u x hxx os xs, r3, hB⟩

set_option maxHeartbeats 2000000 in
theorem rtput_ok (s d : UInt32) (a b : UInt16) (q k : UInt32) (r f : UInt8) (z u : UInt16) (A1 A2 : Option Addr) (c1 c2 : Nat) (os xs : List UInt8) (w : World) (ho : Rd bv w w.heap.size A1 c1 os) (hx : Rd bv w w.heap.size A2 c2 xs) (h1 : r.toNat ≤ 15) (h2 : os.length ≤ 40) (h3 : os.length % 4 = 0) (h4 : 20 + os.length + xs.length ≤ 65535) (h : UInt8) (hh : h.toNat = (5 + os.length / 4) * 16 + r.toNat) (N : Nat) (hN : onesN (uh s d 6 (20 + os.length + xs.length) ++ tb a b q k h f z u 0 os xs) = N) :
    Calls Try.prog 6 #[.int .u32 (s.toNat : Int), .int .u32 (d.toNat : Int), .agg #[.int .u16 (a.toNat : Int), .int .u16 (b.toNat : Int), .int .u32 (q.toNat : Int), .int .u32 (k.toNat : Int), .int .u8 (r.toNat : Int), .int .u8 (f.toNat : Int), .int .u16 (z.toNat : Int), .int .u16 (u.toNat : Int), .slice A1 os.length c1, .slice A2 xs.length c2]] w fun e w' => ∃ L A' c', e = .returned (.tuple #[.slice A' L.length c', .int .i64 0]) ∧ Hid (L = tb a b q k h f z u (65535 - N) os xs) ∧ Rd bv w' w'.heap.size A' c' L ∧ Below w.heap.size w w' := by
  obtain ⟨W1, hW1⟩ : ∃ W1, W1 = w.alloc (.cells #[.int .u16 (a.toNat : Int), .int .u16 (b.toNat : Int), .int .u32 (q.toNat : Int), .int .u32 (k.toNat : Int), .int .u8 (r.toNat : Int), .int .u8 (f.toNat : Int), .int .u16 (z.toNat : Int), .int .u16 (u.toNat : Int), .slice A1 os.length c1, .slice A2 xs.length c2] 26) := ⟨_, rfl⟩
  have hB1 : Below w.heap.size w W1 := by subst hW1; exact bnextA (Below.refl _ _) _
  have hK1 : Blk W1 w.heap.size [.int .u16 (a.toNat : Int), .int .u16 (b.toNat : Int), .int .u32 (q.toNat : Int), .int .u32 (k.toNat : Int), .int .u8 (r.toNat : Int), .int .u8 (f.toNat : Int), .int .u16 (z.toNat : Int), .int .u16 (u.toNat : Int), .slice A1 os.length c1, .slice A2 xs.length c2] 26 := by subst hW1; exact Blk.new _ _ _
  have HS : ∀ W, Below W1.heap.size W1 W → (W.cell? ⟨w.heap.size, 0, none⟩ = some (.int .u16 (a.toNat : Int)) ∧ W.cell? ⟨w.heap.size, 1, none⟩ = some (.int .u16 (b.toNat : Int)) ∧ W.cell? ⟨w.heap.size, 2, none⟩ = some (.int .u32 (q.toNat : Int)) ∧ W.cell? ⟨w.heap.size, 3, none⟩ = some (.int .u32 (k.toNat : Int)) ∧ W.cell? ⟨w.heap.size, 4, none⟩ = some (.int .u8 (r.toNat : Int)) ∧ W.cell? ⟨w.heap.size, 5, none⟩ = some (.int .u8 (f.toNat : Int)) ∧ W.cell? ⟨w.heap.size, 6, none⟩ = some (.int .u16 (z.toNat : Int)) ∧ W.cell? ⟨w.heap.size, 7, none⟩ = some (.int .u16 (u.toNat : Int)) ∧ W.cell? ⟨w.heap.size, 8, none⟩ = some (.slice A1 os.length c1) ∧ W.cell? ⟨w.heap.size, 9, none⟩ = some (.slice A2 xs.length c2)) := by
    intro W h
    obtain ⟨p0, p1, p2, p3, p4, p5, p6, p7, p8, p9, -⟩ := (hK1.next h).get10
    exact ⟨p0, p1, p2, p3, p4, p5, p6, p7, p8, p9⟩
  replace ho := ho.next hB1
  replace hx := hx.next hB1
  have HN := fun (_ : Unit) => Lib.hid hN
  have HC := fun W => Lib.hid (rtmay_ok a b q k r f z u A1 A2 os.length c1 xs.length c2 W h1 h2 h3 h4)
  have HY := fun W (g1 : Rd bv W W.heap.size A1 c1 os) (g2 : Rd bv W W.heap.size A2 c2 xs) => Lib.hid (rtbytes_any a b q k r f z u A1 A2 c1 c2 os xs 0 (by omega) W g1 g2 h1 h2 h4 h hh)
  clear hN
  go_enter Try.func6, Try.ntmps6
  go_wp2_with fail
  rw [← hW1]
  clear hW1
  refine (HC _).out.mono ?_
  rintro e w0 ⟨rfl, hbel⟩
  obtain ⟨p0, p1, p2, p3, p4, p5, p6, p7, p8, p9⟩ := HS _ hbel
  replace hB1 := bnext hB1 hbel
  replace ho := ho.next hbel
  replace hx := hx.next hbel
  replace hK1 := hK1.next hbel
  clear hbel HC HS
  go_wp2_with fail
  refine (HY _ ho hx).out.mono ?_
  rintro e w2 ⟨L8, A8, c8, rfl, HL8, hr8, hbel⟩
  replace hB1 := bnext hB1 hbel
  replace ho := ho.next hbel
  replace hx := hx.next hbel
  replace hK1 := hK1.next hbel
  have HLL : L8.length ≤ 65535 := by rw [HL8.out, tb_len]; omega
  have HH := fun W => Lib.hid (ruhead_any s d 6 L8.length HLL W)
  clear hbel HY p0 p1 p2 p3 p4 p5 p6 p7 p8 p9
  go_wp2_with fail
  have HS : ∀ W, Below w2.heap.size w2 W → (W.cell? ⟨w.heap.size, 0, none⟩ = some (.int .u16 (a.toNat : Int)) ∧ W.cell? ⟨w.heap.size, 1, none⟩ = some (.int .u16 (b.toNat : Int)) ∧ W.cell? ⟨w.heap.size, 2, none⟩ = some (.int .u32 (q.toNat : Int)) ∧ W.cell? ⟨w.heap.size, 3, none⟩ = some (.int .u32 (k.toNat : Int)) ∧ W.cell? ⟨w.heap.size, 4, none⟩ = some (.int .u8 (r.toNat : Int)) ∧ W.cell? ⟨w.heap.size, 5, none⟩ = some (.int .u8 (f.toNat : Int)) ∧ W.cell? ⟨w.heap.size, 6, none⟩ = some (.int .u16 (z.toNat : Int)) ∧ W.cell? ⟨w.heap.size, 7, none⟩ = some (.int .u16 (u.toNat : Int)) ∧ W.cell? ⟨w.heap.size, 8, none⟩ = some (.slice A1 os.length c1) ∧ W.cell? ⟨w.heap.size, 9, none⟩ = some (.slice A2 xs.length c2)) := by
    intro W h
    obtain ⟨p0, p1, p2, p3, p4, p5, p6, p7, p8, p9, -⟩ := (hK1.next h).get10
    exact ⟨p0, p1, p2, p3, p4, p5, p6, p7, p8, p9⟩
  refine region_put (by kernel_rfl) (by kernel_rfl) (by kernel_rfl) 24 rfl (by kernel_rfl) w2 (fun i v W => match i with
      | 0 => v = .agg #[.int .u16 (a.toNat : Int), .int .u16 (b.toNat : Int), .int .u32 (q.toNat : Int), .int .u32 (k.toNat : Int), .int .u8 (r.toNat : Int), .int .u8 (f.toNat : Int), .int .u16 (z.toNat : Int), .int .u16 (u.toNat : Int), .slice A1 os.length c1, .slice A2 xs.length c2]
      | 1 => v = .int .u32 (s.toNat : Int)
      | 2 => v = .int .u32 (d.toNat : Int)
      | 3 => v = .slice A8 L8.length c8
      | 4 => v = .int .i64 (L8.length : Int)
      | 5 => ∃ L A c, v = .slice A L.length c ∧ Hid (L = uh s d 6 (20 + os.length + xs.length)) ∧ Rd bv W W.heap.size A c L
      | 6 => v = .slice A8 L8.length c8
      | 7 => ∃ L A c, v = .slice A L.length c ∧ Hid (L = uh s d 6 (20 + os.length + xs.length) ++ tb a b q k h f z u 0 os xs) ∧ Rd bv W W.heap.size A c L
      | 8 => v = .int .i64 ((65535 - N : Nat) : Int)
      | 9 => ∃ L A c, v = .slice A L.length c ∧ Hid (L = tb a b q k h f z u (65535 - N) os xs) ∧ Rd bv W W.heap.size A c L
      | 10 => ∃ L A c, v = .slice A L.length c ∧ Hid (L = tb a b q k h f z u (65535 - N) os xs) ∧ Rd bv W W.heap.size A c L
      | 11 => v = .int .i64 0
      | _ => True) (Below.refl _ _) ?_ ?_ ?_
  · intro i v W W' h hb
    match i, h with
    | 0, h => exact h
    | 1, h => exact h
    | 2, h => exact h
    | 3, h => exact h
    | 4, h => exact h
    | 5, h => obtain ⟨L, A, c, h1, h2, h3⟩ := h; exact ⟨L, A, c, h1, h2, h3.next hb⟩
    | 6, h => exact h
    | 7, h => obtain ⟨L, A, c, h1, h2, h3⟩ := h; exact ⟨L, A, c, h1, h2, h3.next hb⟩
    | 8, h => exact h
    | 9, h => obtain ⟨L, A, c, h1, h2, h3⟩ := h; exact ⟨L, A, c, h1, h2, h3.next hb⟩
    | 10, h => obtain ⟨L, A, c, h1, h2, h3⟩ := h; exact ⟨L, A, c, h1, h2, h3.next hb⟩
    | 11, h => exact h
    | _ + 12, _ => trivial
  · intro i o uu W hoo hVW hd
    rcases i with _|_|_|_|_|_|_|_|_|_|_|_|i
    · obtain rfl := Option.some.inj hoo
      refine .inl ⟨wanted_none rfl, ?_⟩
      generalize hev : Act.eval _ = ev
      have ec : ∀ c, ev (.const c) = c := fun c => by rw [← hev]; rfl
      have e5 : ev (.tmp 5) = .pointer (some ⟨w.heap.size, 0, none⟩) := by rw [← hev]; exact eval_old (by kernel_rfl) 24 rfl (by decide) rfl
      clear hev hd
      obtain ⟨cc0, cc1, cc2, cc3, cc4, cc5, cc6, cc7, cc8, cc9⟩ := HS W hVW
      exact .inl ⟨_, W, by go_simp, rfl, Below.refl _ _⟩
    · obtain rfl := Option.some.inj hoo
      refine .inl ⟨wanted_none rfl, ?_⟩
      generalize hev : Act.eval _ = ev
      have ec : ∀ c, ev (.const c) = c := fun c => by rw [← hev]; rfl
      have e0 : ev (.tmp 0) = .int .u32 (s.toNat : Int) := by rw [← hev]; exact eval_old (by kernel_rfl) 24 rfl (by decide) rfl
      clear hev hd
      exact .inl ⟨_, W, by go_simp, rfl, Below.refl _ _⟩
    · obtain rfl := Option.some.inj hoo
      refine .inl ⟨wanted_none rfl, ?_⟩
      generalize hev : Act.eval _ = ev
      have ec : ∀ c, ev (.const c) = c := fun c => by rw [← hev]; rfl
      have e1 : ev (.tmp 1) = .int .u32 (d.toNat : Int) := by rw [← hev]; exact eval_old (by kernel_rfl) 24 rfl (by decide) rfl
      clear hev hd
      exact .inl ⟨_, W, by go_simp, rfl, Below.refl _ _⟩
    · obtain rfl := Option.some.inj hoo
      refine .inl ⟨wanted_none rfl, ?_⟩
      generalize hev : Act.eval _ = ev
      have ec : ∀ c, ev (.const c) = c := fun c => by rw [← hev]; rfl
      have e8 : ev (.tmp 8) = .slice A8 L8.length c8 := by rw [← hev]; exact eval_old (by kernel_rfl) 24 rfl (by decide) rfl
      clear hev hd
      exact .inl ⟨_, W, by go_simp, rfl, Below.refl _ _⟩
    · obtain rfl := Option.some.inj hoo
      have q3 : uu 3 = .slice A8 L8.length c8 := hd 3 (by kernel_rfl)
      refine .inl ⟨wanted_none rfl, ?_⟩
      generalize hev : Act.eval _ = ev
      have ec : ∀ c, ev (.const c) = c := fun c => by rw [← hev]; rfl
      have e17 : ev (.tmp 17) = .slice A8 L8.length c8 := by rw [← hev]; exact (eval_put (by kernel_rfl) 24 rfl (by decide)).trans q3
      clear hev hd q3
      exact .inl ⟨_, W, by go_simp, rfl, Below.refl _ _⟩
    · obtain rfl := Option.some.inj hoo
      have q1 : uu 1 = .int .u32 (s.toNat : Int) := hd 1 (by kernel_rfl)
      have q2 : uu 2 = .int .u32 (d.toNat : Int) := hd 2 (by kernel_rfl)
      have q4 : uu 4 = .int .i64 (L8.length : Int) := hd 4 (by kernel_rfl)
      refine .inl ⟨wanted_none rfl, ?_⟩
      generalize hev : Act.eval _ = ev
      have ec : ∀ c, ev (.const c) = c := fun c => by rw [← hev]; rfl
      have ef : ∀ f, ev (.func f) = .func (.func f) #[] #[] := fun f => by rw [← hev]; rfl
      have e15 : ev (.tmp 15) = .int .u32 (s.toNat : Int) := by rw [← hev]; exact (eval_put (by kernel_rfl) 24 rfl (by decide)).trans q1
      have e16 : ev (.tmp 16) = .int .u32 (d.toNat : Int) := by rw [← hev]; exact (eval_put (by kernel_rfl) 24 rfl (by decide)).trans q2
      have e18 : ev (.tmp 18) = .int .i64 (L8.length : Int) := by rw [← hev]; exact (eval_put (by kernel_rfl) 24 rfl (by decide)).trans q4
      clear hev hd q1 q2 q4
      exact .inr ⟨_, _, _, by go_simp, (HH W).out, fun e w' he => by
        obtain ⟨L, A, c, rfl, HL, hr, hb⟩ := he
        exact ⟨_, rfl, ⟨L, A, c, rfl, by rw [Hid, HL.out, HL8.out, tb_len], hr⟩, hb⟩⟩
    · obtain rfl := Option.some.inj hoo
      refine .inl ⟨wanted_none rfl, ?_⟩
      generalize hev : Act.eval _ = ev
      have ec : ∀ c, ev (.const c) = c := fun c => by rw [← hev]; rfl
      have e8 : ev (.tmp 8) = .slice A8 L8.length c8 := by rw [← hev]; exact eval_old (by kernel_rfl) 24 rfl (by decide) rfl
      clear hev hd
      exact .inl ⟨_, W, by go_simp, rfl, Below.refl _ _⟩
    · obtain rfl := Option.some.inj hoo
      obtain ⟨L5, A5, c5, q5, HL5, r5⟩ := hd 5 (by kernel_rfl)
      have q6 : uu 6 = .slice A8 L8.length c8 := hd 6 (by kernel_rfl)
      refine .inl ⟨wanted_none rfl, ?_⟩
      generalize hev : Act.eval _ = ev
      have ec : ∀ c, ev (.const c) = c := fun c => by rw [← hev]; rfl
      have ef : ∀ f, ev (.func f) = .func (.func f) #[] #[] := fun f => by rw [← hev]; rfl
      have e19 : ev (.tmp 19) = .slice A5 L5.length c5 := by rw [← hev]; exact (eval_put (by kernel_rfl) 24 rfl (by decide)).trans q5
      have e20 : ev (.tmp 20) = .slice A8 L8.length c8 := by rw [← hev]; exact (eval_put (by kernel_rfl) 24 rfl (by decide)).trans q6
      clear hev hd q5 q6
      exact .inr ⟨_, _, _, by go_simp, radd_any _ _ _ _ L5 L8 W r5 (hr8.next hVW) (by rw [HL5.out, HL8.out, uh_len, tb_len]; omega), fun e w' he => by
        obtain ⟨v, rfl, hown, hb⟩ := he
        obtain ⟨L, A, c, HL, rfl, hr⟩ := hown.rdv
        exact ⟨_, rfl, ⟨L, A, c, rfl, by rw [Hid, HL.out, HL5.out, HL8.out], hr⟩, hb⟩⟩
    · obtain rfl := Option.some.inj hoo
      obtain ⟨L7, A7, c7, q7, HL7, r7⟩ := hd 7 (by kernel_rfl)
      refine .inl ⟨wanted_none rfl, ?_⟩
      generalize hev : Act.eval _ = ev
      have ec : ∀ c, ev (.const c) = c := fun c => by rw [← hev]; rfl
      have ef : ∀ f, ev (.func f) = .func (.func f) #[] #[] := fun f => by rw [← hev]; rfl
      have e21 : ev (.tmp 21) = .slice A7 L7.length c7 := by rw [← hev]; exact (eval_put (by kernel_rfl) 24 rfl (by decide)).trans q7
      clear hev hd q7
      exact .inr ⟨_, _, _, by go_simp, rof_any _ _ L7 N W _ r7 (by rw [HL7.out]; simp [uh_len, tb_len]; omega) (by rw [HL7.out]; exact (HN ()).out), fun e w' he => ⟨_, he.1, rfl, he.2 ▸ Below.refl _ _⟩⟩
    · obtain rfl := Option.some.inj hoo
      have q0 : uu 0 = .agg #[.int .u16 (a.toNat : Int), .int .u16 (b.toNat : Int), .int .u32 (q.toNat : Int), .int .u32 (k.toNat : Int), .int .u8 (r.toNat : Int), .int .u8 (f.toNat : Int), .int .u16 (z.toNat : Int), .int .u16 (u.toNat : Int), .slice A1 os.length c1, .slice A2 xs.length c2] := hd 0 (by kernel_rfl)
      have q8 : uu 8 = .int .i64 ((65535 - N : Nat) : Int) := hd 8 (by kernel_rfl)
      refine .inl ⟨wanted_none rfl, ?_⟩
      generalize hev : Act.eval _ = ev
      have ec : ∀ c, ev (.const c) = c := fun c => by rw [← hev]; rfl
      have ef : ∀ f, ev (.func f) = .func (.func f) #[] #[] := fun f => by rw [← hev]; rfl
      have e14 : ev (.tmp 14) = .agg #[.int .u16 (a.toNat : Int), .int .u16 (b.toNat : Int), .int .u32 (q.toNat : Int), .int .u32 (k.toNat : Int), .int .u8 (r.toNat : Int), .int .u8 (f.toNat : Int), .int .u16 (z.toNat : Int), .int .u16 (u.toNat : Int), .slice A1 os.length c1, .slice A2 xs.length c2] := by rw [← hev]; exact (eval_put (by kernel_rfl) 24 rfl (by decide)).trans q0
      have e22 : ev (.tmp 22) = .int .i64 ((65535 - N : Nat) : Int) := by rw [← hev]; exact (eval_put (by kernel_rfl) 24 rfl (by decide)).trans q8
      clear hev hd q0 q8
      exact .inr ⟨_, _, _, by go_simp, rtbytes_any a b q k r f z u A1 A2 c1 c2 os xs (65535 - N) (by omega) W (ho.next hVW) (hx.next hVW) h1 h2 h4 h hh, fun e w' he => by
        obtain ⟨L, A, c, rfl, HL, hr, hb⟩ := he
        exact ⟨_, rfl, ⟨L, A, c, rfl, HL, hr⟩, hb⟩⟩
    · obtain rfl := Option.some.inj hoo
      obtain ⟨L9, A9, c9, q9, HL9, r9⟩ := hd 9 (by kernel_rfl)
      refine .inl ⟨wanted_none rfl, ?_⟩
      generalize hev : Act.eval _ = ev
      have ec : ∀ c, ev (.const c) = c := fun c => by rw [← hev]; rfl
      have e23 : ev (.tmp 23) = .slice A9 L9.length c9 := by rw [← hev]; exact (eval_put (by kernel_rfl) 24 rfl (by decide)).trans q9
      clear hev hd q9
      exact .inl ⟨_, W, by go_simp, ⟨L9, A9, c9, rfl, HL9, r9⟩, Below.refl _ _⟩
    · obtain rfl := Option.some.inj hoo
      refine .inl ⟨wanted_none rfl, ?_⟩
      generalize hev : Act.eval _ = ev
      have ec : ∀ c, ev (.const c) = c := fun c => by rw [← hev]; rfl
      clear hev hd
      exact .inl ⟨_, W, by go_simp, rfl, Below.refl _ _⟩
    · simp at hoo
  · intro uu W hVW hall
    obtain ⟨L, A, c, q10, HL, hr⟩ : ∃ L A c, uu 10 = .slice A L.length c ∧ Hid (L = tb a b q k h f z u (65535 - N) os xs) ∧ Rd bv W W.heap.size A c L := hall 10 (by decide)
    have q11 : uu 11 = .int .i64 0 := hall 11 (by decide)
    have hB := hB1.trans (hVW.mono hB1.size)
    clear hall HS hK1 ho hx
    simp only [putAll, Act.put, Nat.reduceAdd, q10, q11]
    simp only [List.setIfInBounds_toArray, List.set_cons_succ, List.set_cons_zero]
    go_wp2_with fail
    go_ret2
    exact ⟨L, A, c, rfl, HL, hr, hB⟩

end Go.Proofs.Ytlceflfmdfoeiaa
