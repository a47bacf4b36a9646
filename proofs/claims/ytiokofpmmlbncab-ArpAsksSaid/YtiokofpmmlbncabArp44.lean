/- The reference's Parse of ARP packets: the walk. -/
import Derived.Test.YtiokofpmmlbncabArp4
namespace Go.Proofs.Ytiokofpmmlbncab
open Go.RowKit

set_option maxHeartbeats 8000000 in
set_option maxRecDepth 10000 in
theorem rarp_q4 (A : Option Addr) (c : Nat) (xs : List UInt8) (w : World) (hr : Rd bv w w.heap.size A c xs) (h28 : 28 ≤ xs.length) (hl : xs.length ≤ 1000000) (o : UInt16) (m0 m1 m2 m3 m4 m5 : UInt8) (s : UInt32) (n0 n1 n2 n3 n4 n5 : UInt8) (d : UInt32) (ho : beN ((xs.drop 6).take 2) = o.toNat) (hm : (xs.drop 8).take 6 = [m0, m1, m2, m3, m4, m5]) (hs : beN ((xs.drop 14).take 4) = s.toNat) (hn : (xs.drop 18).take 6 = [n0, n1, n2, n3, n4, n5]) (hd : beN ((xs.drop 24).take 4) = d.toNat)
    (hop : Hid (arpB o m0 m1 m2 m3 m4 m5 s n0 n1 n2 n3 n4 n5 d = xs.take 28 ∧ (1 ≤ o.toNat ∧ o.toNat ≤ 2) ∧ m0.toNat % 2 = 1)) (Q : Ending → World → Prop) (HE : Hid (¬ (xs.take 6 = [0, 1, 8, 0, 6, 4] ∧ (o.toNat = 1 ∨ o.toNat = 2) ∧ uniB m0 m1 m2 m3 m4 m5 = true) → ∀ w', Below w.heap.size w w' → Q (.returned (.tuple #[.agg #[.int .u16 0, .int .u8 0, .int .u8 0, .int .u8 0, .int .u8 0, .int .u8 0, .int .u8 0, .int .u32 0, .int .u8 0, .int .u8 0, .int .u8 0, .int .u8 0, .int .u8 0, .int .u8 0, .int .u32 0], .int .i64 3])) w')) :
    Calls Try.prog 24 #[.slice A xs.length c] w Q := by
  have hlc := hr.len
  have hcc := hr.cap
  have hop2 := hop.out
  have hsm := arp_same xs h28 hl o m0 m1 m2 m3 m4 m5 s n0 n1 n2 n3 n4 n5 d ho hm hs hn hd
  have M8 := fun W (h : Rd bv W W.heap.size A c xs) => Lib.hid (rmacat_any A c xs 8 W h (by omega) m0 m1 m2 m3 m4 m5 hm)
  have M18 := fun W (h : Rd bv W W.heap.size A c xs) => Lib.hid (rmacat_any A c xs 18 W h (by omega) n0 n1 n2 n3 n4 n5 hn)
  have Q6 := fun W (h : Rd bv W W.heap.size A c xs) => Lib.hid (rget2_yes A c xs 6 W _ h (by omega))
  have Q14 := fun W (h : Rd bv W W.heap.size A c xs) => Lib.hid (rget4_yes A c xs 14 W _ h (by omega))
  have Q24 := fun W (h : Rd bv W W.heap.size A c xs) => Lib.hid (rget4_yes A c xs 24 W _ h (by omega))
  rw [ho] at Q6
  rw [hs] at Q14
  rw [hd] at Q24
  obtain ⟨b28, h28b⟩ : ∃ l, xs.take 28 = l := ⟨_, rfl⟩
  have r28 := fun W (h : Below w.heap.size w W) => (hr.next h).take 28
  rw [h28b] at r28 hsm hop2
  have l28 : b28.length = 28 := by rw [← h28b]; simp; omega
  have hc28 : (28 : Int) ≤ (c : Int) := by omega
  have hU := uni_of m0 m1 m2 m3 m4 m5
  obtain ⟨SM, hSM⟩ : ∃ SM, macS [m0, m1, m2, m3, m4, m5] 6 = SM := ⟨_, rfl⟩
  have hS6 := macS_le [m0, m1, m2, m3, m4, m5] 6
  rw [hSM] at hU hS6
  first | rw [hSM] at hop2 | skip
  replace HE : Hid (¬ (arpB o m0 m1 m2 m3 m4 m5 s n0 n1 n2 n3 n4 n5 d = b28 ∧ (o.toNat = 1 ∨ o.toNat = 2) ∧ m0.toNat % 2 = 0 ∧ SM ≠ 0) → ∀ w', Below w.heap.size w w' → Q (.returned (.tuple #[.agg #[.int .u16 0, .int .u8 0, .int .u8 0, .int .u8 0, .int .u8 0, .int .u8 0, .int .u8 0, .int .u32 0, .int .u8 0, .int .u8 0, .int .u8 0, .int .u8 0, .int .u8 0, .int .u8 0, .int .u32 0], .int .i64 3])) w') := fun h => HE.out fun g => h ⟨hsm.2 g.1, g.2.1, hU.1 g.2.2⟩
  have hne : w.heap.size ≠ w.heap.size + 1 := by omega
  replace hop2 := Lib.hid hop2
  have hdl : decide ((xs.length : Int) < 28) = false := by simp; omega
  have K0 := Blk.new w #[.int .u16 0, .int .u8 0, .int .u8 0, .int .u8 0, .int .u8 0, .int .u8 0, .int .u8 0, .int .u32 0, .int .u8 0, .int .u8 0, .int .u8 0, .int .u8 0, .int .u8 0, .int .u8 0, .int .u32 0] 47
  have hB := bnextA (Below.refl w.heap.size w) (.cells #[.int .u16 0, .int .u8 0, .int .u8 0, .int .u8 0, .int .u8 0, .int .u8 0, .int .u8 0, .int .u32 0, .int .u8 0, .int .u8 0, .int .u8 0, .int .u8 0, .int .u8 0, .int .u8 0, .int .u32 0] 47)
  have HXL := Lib.hid (show 28 ≤ xs.length from h28)
  have ho65 := u16_le o
  clear ho hm hs hn hd hsm hU h28b h28 hl hlc
  go_enter Try.func24, Try.ntmps24
  go_wp2_with fail
  generalize hVV : w.alloc (.cells #[.int .u16 0, .int .u8 0, .int .u8 0, .int .u8 0, .int .u8 0, .int .u8 0, .int .u8 0, .int .u32 0, .int .u8 0, .int .u8 0, .int .u8 0, .int .u8 0, .int .u8 0, .int .u8 0, .int .u32 0] 47) = V at *
  have hsz : V.heap.size = w.heap.size + 1 := by rw [← hVV]; simp
  clear hVV
  refine (M8 _ (hr.next hB)).out.mono ?_
  rintro e V1 ⟨rfl, hb⟩
  have hz1 := hb.size
  replace hB := bnext hB hb
  replace K0 := K0.next hb
  clear hb M8
  go_wp2_with fail
  refine (M18 _ (hr.next hB)).out.mono ?_
  rintro e V2 ⟨rfl, hb⟩
  replace hB := bnext hB hb
  replace K0 := K0.next hb
  clear hb M18
  have hne : w.heap.size ≠ V2.heap.size := Nat.ne_of_lt K0.lt
  have hgw : w.heap.size ≤ V2.heap.size := Nat.le_of_lt K0.lt
  have K1 := Blk.new V2 #[.int .u16 0, .int .u8 (m0.toNat : Int), .int .u8 (m1.toNat : Int), .int .u8 (m2.toNat : Int), .int .u8 (m3.toNat : Int), .int .u8 (m4.toNat : Int), .int .u8 (m5.toNat : Int), .int .u32 0, .int .u8 (n0.toNat : Int), .int .u8 (n1.toNat : Int), .int .u8 (n2.toNat : Int), .int .u8 (n3.toNat : Int), .int .u8 (n4.toNat : Int), .int .u8 (n5.toNat : Int), .int .u32 0] 47
  replace K0 := K0.alloc (.cells #[.int .u16 0, .int .u8 (m0.toNat : Int), .int .u8 (m1.toNat : Int), .int .u8 (m2.toNat : Int), .int .u8 (m3.toNat : Int), .int .u8 (m4.toNat : Int), .int .u8 (m5.toNat : Int), .int .u32 0, .int .u8 (n0.toNat : Int), .int .u8 (n1.toNat : Int), .int .u8 (n2.toNat : Int), .int .u8 (n3.toNat : Int), .int .u8 (n4.toNat : Int), .int .u8 (n5.toNat : Int), .int .u32 0] 47)
  replace hB := bnextA hB (.cells #[.int .u16 0, .int .u8 (m0.toNat : Int), .int .u8 (m1.toNat : Int), .int .u8 (m2.toNat : Int), .int .u8 (m3.toNat : Int), .int .u8 (m4.toNat : Int), .int .u8 (m5.toNat : Int), .int .u32 0, .int .u8 (n0.toNat : Int), .int .u8 (n1.toNat : Int), .int .u8 (n2.toNat : Int), .int .u8 (n3.toNat : Int), .int .u8 (n4.toNat : Int), .int .u8 (n5.toNat : Int), .int .u32 0] 47)
  go_wp2_with fail
  generalize V2.alloc (.cells #[.int .u16 0, .int .u8 (m0.toNat : Int), .int .u8 (m1.toNat : Int), .int .u8 (m2.toNat : Int), .int .u8 (m3.toNat : Int), .int .u8 (m4.toNat : Int), .int .u8 (m5.toNat : Int), .int .u32 0, .int .u8 (n0.toNat : Int), .int .u8 (n1.toNat : Int), .int .u8 (n2.toNat : Int), .int .u8 (n3.toNat : Int), .int .u8 (n4.toNat : Int), .int .u8 (n5.toNat : Int), .int .u32 0] 47) = V3 at *
  generalize V2.heap.size = g at *
  clear hsz hz1
  refine (Q6 _ (hr.next hB)).out.mono ?_
  rintro e V4 ⟨rfl, rfl⟩
  clear Q6
  obtain ⟨p0, p1, p2, p3, p4, p5, p6, p7, p8, p9, p10, p11, p12, p13, p14, f0, f1, f2, f3, f4, f5, f6, f7, f8, f9, f10, f11, f12, f13, f14⟩ := K1.get15
  go_wp2_with fail
  replace hB := hB.setCell (p := ⟨g, 0, none⟩) hgw (.int .u16 (o.toNat : Int))
  replace K0 := K0.other hne 0 (.int .u16 (o.toNat : Int))
  replace K1 := K1.set 0 (.int .u16 (o.toNat : Int))
  clear p0 p1 p2 p3 p4 p5 p6 p7 p8 p9 p10 p11 p12 p13 p14 f0 f1 f2 f3 f4 f5 f6 f7 f8 f9 f10 f11 f12 f13 f14
  generalize V3.setCell ⟨g, 0, none⟩ (.int .u16 (o.toNat : Int)) = V5 at *
  refine (Q14 _ (hr.next hB)).out.mono ?_
  rintro e V4 ⟨rfl, rfl⟩
  clear Q14
  obtain ⟨p0, p1, p2, p3, p4, p5, p6, p7, p8, p9, p10, p11, p12, p13, p14, f0, f1, f2, f3, f4, f5, f6, f7, f8, f9, f10, f11, f12, f13, f14⟩ := K1.get15
  go_wp2_with fail
  replace hB := hB.setCell (p := ⟨g, 7, none⟩) hgw (.int .u32 (s.toNat : Int))
  replace K0 := K0.other hne 7 (.int .u32 (s.toNat : Int))
  replace K1 := K1.set 7 (.int .u32 (s.toNat : Int))
  clear p0 p1 p2 p3 p4 p5 p6 p7 p8 p9 p10 p11 p12 p13 p14 f0 f1 f2 f3 f4 f5 f6 f7 f8 f9 f10 f11 f12 f13 f14
  generalize V5.setCell ⟨g, 7, none⟩ (.int .u32 (s.toNat : Int)) = V6 at *
  refine (Q24 _ (hr.next hB)).out.mono ?_
  rintro e V4 ⟨rfl, rfl⟩
  clear Q24
  obtain ⟨p0, p1, p2, p3, p4, p5, p6, p7, p8, p9, p10, p11, p12, p13, p14, f0, f1, f2, f3, f4, f5, f6, f7, f8, f9, f10, f11, f12, f13, f14⟩ := K1.get15
  go_wp2_with fail
  replace hB := hB.setCell (p := ⟨g, 14, none⟩) hgw (.int .u32 (d.toNat : Int))
  replace K0 := K0.other hne 14 (.int .u32 (d.toNat : Int))
  replace K1 := K1.set 14 (.int .u32 (d.toNat : Int))
  clear p0 p1 p2 p3 p4 p5 p6 p7 p8 p9 p10 p11 p12 p13 p14 f0 f1 f2 f3 f4 f5 f6 f7 f8 f9 f10 f11 f12 f13 f14
  generalize V6.setCell ⟨g, 14, none⟩ (.int .u32 (d.toNat : Int)) = V8 at *
  have HS : ∀ W, Below V8.heap.size V8 W → (W.cell? ⟨g, 0, none⟩ = some (.int .u16 (o.toNat : Int)) ∧ W.cell? ⟨g, 1, none⟩ = some (.int .u8 (m0.toNat : Int)) ∧ W.cell? ⟨g, 2, none⟩ = some (.int .u8 (m1.toNat : Int)) ∧ W.cell? ⟨g, 3, none⟩ = some (.int .u8 (m2.toNat : Int)) ∧ W.cell? ⟨g, 4, none⟩ = some (.int .u8 (m3.toNat : Int)) ∧ W.cell? ⟨g, 5, none⟩ = some (.int .u8 (m4.toNat : Int)) ∧ W.cell? ⟨g, 6, none⟩ = some (.int .u8 (m5.toNat : Int)) ∧ W.cell? ⟨g, 7, none⟩ = some (.int .u32 (s.toNat : Int)) ∧ W.cell? ⟨g, 8, none⟩ = some (.int .u8 (n0.toNat : Int)) ∧ W.cell? ⟨g, 9, none⟩ = some (.int .u8 (n1.toNat : Int)) ∧ W.cell? ⟨g, 10, none⟩ = some (.int .u8 (n2.toNat : Int)) ∧ W.cell? ⟨g, 11, none⟩ = some (.int .u8 (n3.toNat : Int)) ∧ W.cell? ⟨g, 12, none⟩ = some (.int .u8 (n4.toNat : Int)) ∧ W.cell? ⟨g, 13, none⟩ = some (.int .u8 (n5.toNat : Int)) ∧ W.cell? ⟨g, 14, none⟩ = some (.int .u32 (d.toNat : Int))) := by
    intro W h
    obtain ⟨p0, p1, p2, p3, p4, p5, p6, p7, p8, p9, p10, p11, p12, p13, p14, -⟩ := (K1.next h).get15
    exact ⟨p0, p1, p2, p3, p4, p5, p6, p7, p8, p9, p10, p11, p12, p13, p14⟩
  obtain ⟨ms, hms⟩ : ∃ ms, [m0, m1, m2, m3, m4, m5] = ms := ⟨_, rfl⟩
  have hcell : ∀ j, j < 6 → V8.cell? ⟨g, 1 + j, none⟩ = some (.int .u8 ((ms.getD j 0).toNat : Int)) := by
    intro j hj
    rw [K1.cell, ← hms]
    match j, hj with | 0, _ | 1, _ | 2, _ | 3, _ | 4, _ | 5, _ => rfl
  have hSM6 : macS ms 6 = SM := by rw [← hms, hSM]
  clear hms hSM
  have HSM := Lib.hid hSM6
  clear hSM6
  go_loopw [7, 8] (fun sm i wr => ∃ j : Nat, j ≤ 6 ∧ i = .int .i64 j ∧ sm = .int .i64 (macS ms j : Int) ∧ V8 = wr) (fun _ i _ => 6 - (intOf i).toNat)
  case atStart => exact ⟨0, by omega, rfl, rfl, rfl⟩
  case round =>
    obtain ⟨j, hj, rfl, rfl, hwr⟩ := hrel
    subst hwr
    by_cases hlt6 : j < 6
    · have c0 := hcell j hlt6
      have hle := macS_le ms j
      have hst : macS ms (j + 1) = macS ms j + (ms.getD j 0).toNat := rfl
      have HST := Lib.hid hst
      have hx := (ms.getD j 0).toNat_lt
      clear hst hcell HS K0 K1
      generalize ms.getD j 0 = x at c0 HST hx
      have hle2 : macS ms j ≤ 1530 := by omega
      generalize macS ms j = S at *
      clear hle
      go_wp2_with fail
      go_roundw
      case rel => exact ⟨j + 1, by omega, by go_num, by rw [HST.out]; simp, trivial⟩
      case measure => simp [intOf]; omega
    · have hj6 : j = 6 := by omega
      subst hj6
      rw [HSM.out]
      clear hcell HSM hlt6 hj
      go_wp2_with fail
      have HM2 : Hid ((m0.toNat : Int).tmod 2 = ((m0.toNat % 2 : Nat) : Int)) := by rw [Hid, Int.tmod_eq_emod_of_nonneg (by omega)]; simp
      obtain ⟨hh, ⟨ho1, ho2⟩, hod⟩ := hop2.out
      have HLT : Hid (decide ((o.toNat : Int) < 1) = false) := by rw [Hid]; simp; omega
      have HGT : Hid (decide ((2 : Int) < (o.toNat : Int)) = false) := by rw [Hid]; simp; omega
      have HOD : Hid ((((m0.toNat % 2 : Nat) : Int) == 1) = true) := by rw [Hid, hod]; rfl
      have HO2 : Hid ((m0.toNat : Int) % 2 = 1) := by rw [Hid]; omega
      refine region_put (by kernel_rfl) (by kernel_rfl) (by kernel_rfl) 76 rfl (by kernel_rfl) V8 (fun i v W => match i with
          | 0 => v = .agg #[.int .u16 (o.toNat : Int), .int .u8 (m0.toNat : Int), .int .u8 (m1.toNat : Int), .int .u8 (m2.toNat : Int), .int .u8 (m3.toNat : Int), .int .u8 (m4.toNat : Int), .int .u8 (m5.toNat : Int), .int .u32 (s.toNat : Int), .int .u8 (n0.toNat : Int), .int .u8 (n1.toNat : Int), .int .u8 (n2.toNat : Int), .int .u8 (n3.toNat : Int), .int .u8 (n4.toNat : Int), .int .u8 (n5.toNat : Int), .int .u32 (d.toNat : Int)]
          | 1 => ∃ L A c, v = .slice A L.length c ∧ Hid (L = arpB o m0 m1 m2 m3 m4 m5 s n0 n1 n2 n3 n4 n5 d) ∧ Rd bv W W.heap.size A c L
          | 2 => v = .slice A xs.length c
          | 3 => ∃ L A c, v = .slice A L.length c ∧ Hid (L = b28) ∧ Rd bv W W.heap.size A c L
          | 4 => v = .bool true
          | 5 => v = .bool false
          | 6 => v = .bool false
          | 7 => v = .int .u32 (o.toNat : Int)
          | 8 => v = .bool false
          | 9 => v = .bool false
          | 10 => v = .bool false
          | 11 => v = .int .u32 (o.toNat : Int)
          | 12 => v = .bool false
          | 13 => v = .bool false
          | 14 => v = .bool false
          | 15 => v = .pointer (some ⟨g, 1, none⟩)
          | 16 => v = .pointer (some ⟨g, 1, none⟩)
          | 17 => v = .int .u8 (m0.toNat : Int)
          | 18 => v = .int .u8 ((m0.toNat % 2 : Nat) : Int)
          | 19 => v = .bool true
          | 20 => v = .bool true
          | 21 => v = .bool true
          | 22 => v = undef
          | 23 => v = undef
          | 24 => v = .bool true
          | _ => True) (Below.refl _ _) ?_ ?_ ?_
      · intro i v W W' h hb
        match i, h with
        | 0, h => exact h
        | 1, h => obtain ⟨L, A, c, h1, h2, h3⟩ := h; exact ⟨L, A, c, h1, h2, h3.next hb⟩
        | 2, h => exact h
        | 3, h => obtain ⟨L, A, c, h1, h2, h3⟩ := h; exact ⟨L, A, c, h1, h2, h3.next hb⟩
        | 4, h => exact h
        | 5, h => exact h
        | 6, h => exact h
        | 7, h => exact h
        | 8, h => exact h
        | 9, h => exact h
        | 10, h => exact h
        | 11, h => exact h
        | 12, h => exact h
        | 13, h => exact h
        | 14, h => exact h
        | 15, h => exact h
        | 16, h => exact h
        | 17, h => exact h
        | 18, h => exact h
        | 19, h => exact h
        | 20, h => exact h
        | 21, h => exact h
        | 22, h => exact h
        | 23, h => exact h
        | 24, h => exact h
        | _ + 25, _ => trivial
      · intro i o uu W hoo hVW hd
        rcases i with _|_|_|_|_|_|_|_|_|_|_|_|_|_|_|_|_|_|_|_|_|_|_|_|_|i
        · obtain rfl := Option.some.inj hoo
          refine .inl ⟨wanted_none rfl, ?_⟩
          generalize hev : Act.eval _ = ev
          have ec : ∀ c, ev (.const c) = c := fun c => by rw [← hev]; rfl
          have e4 : ev (.tmp 4) = .pointer (some ⟨g, 0, none⟩) := by rw [← hev]; exact eval_old (by kernel_rfl) 76 rfl (by decide) rfl
          clear hev hd
          obtain ⟨cc0, cc1, cc2, cc3, cc4, cc5, cc6, cc7, cc8, cc9, cc10, cc11, cc12, cc13, cc14⟩ := HS W hVW
          exact .inl ⟨_, W, by go_simp, rfl, Below.refl _ _⟩
        · obtain rfl := Option.some.inj hoo
          have q0 : uu 0 = .agg #[.int .u16 (o.toNat : Int), .int .u8 (m0.toNat : Int), .int .u8 (m1.toNat : Int), .int .u8 (m2.toNat : Int), .int .u8 (m3.toNat : Int), .int .u8 (m4.toNat : Int), .int .u8 (m5.toNat : Int), .int .u32 (s.toNat : Int), .int .u8 (n0.toNat : Int), .int .u8 (n1.toNat : Int), .int .u8 (n2.toNat : Int), .int .u8 (n3.toNat : Int), .int .u8 (n4.toNat : Int), .int .u8 (n5.toNat : Int), .int .u32 (d.toNat : Int)] := hd 0 (by kernel_rfl)
          refine .inl ⟨wanted_none rfl, ?_⟩
          generalize hev : Act.eval _ = ev
          have ec : ∀ c, ev (.const c) = c := fun c => by rw [← hev]; rfl
          have ef : ∀ f, ev (.func f) = .func (.func f) #[] #[] := fun f => by rw [← hev]; rfl
          have e49 : ev (.tmp 49) = .agg #[.int .u16 (o.toNat : Int), .int .u8 (m0.toNat : Int), .int .u8 (m1.toNat : Int), .int .u8 (m2.toNat : Int), .int .u8 (m3.toNat : Int), .int .u8 (m4.toNat : Int), .int .u8 (m5.toNat : Int), .int .u32 (s.toNat : Int), .int .u8 (n0.toNat : Int), .int .u8 (n1.toNat : Int), .int .u8 (n2.toNat : Int), .int .u8 (n3.toNat : Int), .int .u8 (n4.toNat : Int), .int .u8 (n5.toNat : Int), .int .u32 (d.toNat : Int)] := by rw [← hev]; exact (eval_put (by kernel_rfl) 76 rfl (by decide)).trans q0
          clear hev hd q0
          exact .inr ⟨_, _, _, by go_simp, rput_arp o m0 m1 m2 m3 m4 m5 s n0 n1 n2 n3 n4 n5 d W, fun e w' he => by
            obtain ⟨L, A, c, rfl, HL, hr, hb⟩ := he
            exact ⟨_, rfl, ⟨L, A, c, rfl, HL, hr⟩, hb⟩⟩
        · obtain rfl := Option.some.inj hoo
          refine .inl ⟨wanted_none rfl, ?_⟩
          generalize hev : Act.eval _ = ev
          have ec : ∀ c, ev (.const c) = c := fun c => by rw [← hev]; rfl
          have e0 : ev (.tmp 0) = .slice A xs.length c := by rw [← hev]; exact eval_old (by kernel_rfl) 76 rfl (by decide) rfl
          clear hev hd
          exact .inl ⟨_, W, by go_simp, rfl, Below.refl _ _⟩
        · obtain rfl := Option.some.inj hoo
          have q2 : uu 2 = .slice A xs.length c := hd 2 (by kernel_rfl)
          refine .inl ⟨wanted_none rfl, ?_⟩
          generalize hev : Act.eval _ = ev
          have ec : ∀ c, ev (.const c) = c := fun c => by rw [← hev]; rfl
          have e51 : ev (.tmp 51) = .slice A xs.length c := by rw [← hev]; exact (eval_put (by kernel_rfl) 76 rfl (by decide)).trans q2
          clear hev hd q2
          exact .inl ⟨.slice A 28 c, W, by go_simp, ⟨b28, A, c, by rw [l28], rfl, r28 W (hB.trans (hVW.mono hB.size))⟩, Below.refl _ _⟩
        · obtain rfl := Option.some.inj hoo
          obtain ⟨L1, A1, c1, q1, HL1, r1⟩ := hd 1 (by kernel_rfl)
          obtain ⟨L3, A3, c3, q3, HL3, r3⟩ := hd 3 (by kernel_rfl)
          refine .inl ⟨wanted_none rfl, ?_⟩
          generalize hev : Act.eval _ = ev
          have ec : ∀ c, ev (.const c) = c := fun c => by rw [← hev]; rfl
          have ef : ∀ f, ev (.func f) = .func (.func f) #[] #[] := fun f => by rw [← hev]; rfl
          have e50 : ev (.tmp 50) = .slice A1 L1.length c1 := by rw [← hev]; exact (eval_put (by kernel_rfl) 76 rfl (by decide)).trans q1
          have e52 : ev (.tmp 52) = .slice A3 L3.length c3 := by rw [← hev]; exact (eval_put (by kernel_rfl) 76 rfl (by decide)).trans q3
          clear hev hd q1 q3
          exact .inr ⟨_, _, _, by go_simp, rsame_eq _ _ _ _ L1 L3 W _ r1 r3 (by rw [HL1.out, HL3.out]; exact hh), fun e w' he => ⟨_, he.1, rfl, he.2.below⟩⟩
        · obtain rfl := Option.some.inj hoo
          have q4 : uu 4 = .bool true := hd 4 (by kernel_rfl)
          refine .inl ⟨wanted_none rfl, ?_⟩
          generalize hev : Act.eval _ = ev
          have ec : ∀ c, ev (.const c) = c := fun c => by rw [← hev]; rfl
          have e53 : ev (.tmp 53) = .bool true := by rw [← hev]; exact (eval_put (by kernel_rfl) 76 rfl (by decide)).trans q4
          clear hev hd q4
          exact .inl ⟨_, W, by go_simp, rfl, Below.refl _ _⟩
        · obtain rfl := Option.some.inj hoo
          have q5 : uu 5 = .bool false := hd 5 (by kernel_rfl)
          refine .inl ⟨wanted_none rfl, ?_⟩
          generalize hev : Act.eval _ = ev
          have ec : ∀ c, ev (.const c) = c := fun c => by rw [← hev]; rfl
          have e54 : ev (.tmp 54) = .bool false := by rw [← hev]; exact (eval_put (by kernel_rfl) 76 rfl (by decide)).trans q5
          clear hev hd q5
          exact .inl ⟨_, W, by go_simp, rfl, Below.refl _ _⟩
        · obtain rfl := Option.some.inj hoo
          have q6 : uu 6 = .bool false := hd 6 (by kernel_rfl)
          refine .inl ⟨wanted_yes rfl (yielded_put (k := 55) (by kernel_rfl) (by kernel_rfl) 76 rfl (by decide) q6), ?_⟩
          generalize hev : Act.eval _ = ev
          have ec : ∀ c, ev (.const c) = c := fun c => by rw [← hev]; rfl
          have e5 : ev (.tmp 5) = .int .u32 (o.toNat : Int) := by rw [← hev]; exact eval_old (by kernel_rfl) 76 rfl (by decide) rfl
          clear hev hd q6
          exact .inl ⟨_, W, by go_simp, rfl, Below.refl _ _⟩
        · obtain rfl := Option.some.inj hoo
          have q7 : uu 7 = .int .u32 (o.toNat : Int) := hd 7 (by kernel_rfl)
          have q6 : uu 6 = .bool false := hd 6 (by kernel_rfl)
          refine .inl ⟨wanted_yes rfl (yielded_put (k := 55) (by kernel_rfl) (by kernel_rfl) 76 rfl (by decide) q6), ?_⟩
          generalize hev : Act.eval _ = ev
          have ec : ∀ c, ev (.const c) = c := fun c => by rw [← hev]; rfl
          have e56 : ev (.tmp 56) = .int .u32 (o.toNat : Int) := by rw [← hev]; exact (eval_put (by kernel_rfl) 76 rfl (by decide)).trans q7
          clear hev hd q7 q6
          have hh1 := HLT.out
          exact .inl ⟨_, W, by go_simp, rfl, Below.refl _ _⟩
        · obtain rfl := Option.some.inj hoo
          have q6 : uu 6 = .bool false := hd 6 (by kernel_rfl)
          have q8 : uu 8 = .bool false := hd 8 (by kernel_rfl)
          refine .inl ⟨wanted_none rfl, ?_⟩
          generalize hev : Act.eval _ = ev
          have ec : ∀ c, ev (.const c) = c := fun c => by rw [← hev]; rfl
          have e55 : ev (.tmp 55) = .bool false := by rw [← hev]; exact (eval_put (by kernel_rfl) 76 rfl (by decide)).trans q6
          have e57 : ev (.tmp 57) = .bool false := by rw [← hev]; exact (eval_put (by kernel_rfl) 76 rfl (by decide)).trans q8
          clear hev hd q6 q8
          exact .inl ⟨_, W, by go_simp, rfl, Below.refl _ _⟩
        · obtain rfl := Option.some.inj hoo
          have q9 : uu 9 = .bool false := hd 9 (by kernel_rfl)
          refine .inl ⟨wanted_none rfl, ?_⟩
          generalize hev : Act.eval _ = ev
          have ec : ∀ c, ev (.const c) = c := fun c => by rw [← hev]; rfl
          have e58 : ev (.tmp 58) = .bool false := by rw [← hev]; exact (eval_put (by kernel_rfl) 76 rfl (by decide)).trans q9
          clear hev hd q9
          exact .inl ⟨_, W, by go_simp, rfl, Below.refl _ _⟩
        · obtain rfl := Option.some.inj hoo
          have q10 : uu 10 = .bool false := hd 10 (by kernel_rfl)
          refine .inl ⟨wanted_yes rfl (yielded_put (k := 59) (by kernel_rfl) (by kernel_rfl) 76 rfl (by decide) q10), ?_⟩
          generalize hev : Act.eval _ = ev
          have ec : ∀ c, ev (.const c) = c := fun c => by rw [← hev]; rfl
          have e5 : ev (.tmp 5) = .int .u32 (o.toNat : Int) := by rw [← hev]; exact eval_old (by kernel_rfl) 76 rfl (by decide) rfl
          clear hev hd q10
          exact .inl ⟨_, W, by go_simp, rfl, Below.refl _ _⟩
        · obtain rfl := Option.some.inj hoo
          have q11 : uu 11 = .int .u32 (o.toNat : Int) := hd 11 (by kernel_rfl)
          have q10 : uu 10 = .bool false := hd 10 (by kernel_rfl)
          refine .inl ⟨wanted_yes rfl (yielded_put (k := 59) (by kernel_rfl) (by kernel_rfl) 76 rfl (by decide) q10), ?_⟩
          generalize hev : Act.eval _ = ev
          have ec : ∀ c, ev (.const c) = c := fun c => by rw [← hev]; rfl
          have e60 : ev (.tmp 60) = .int .u32 (o.toNat : Int) := by rw [← hev]; exact (eval_put (by kernel_rfl) 76 rfl (by decide)).trans q11
          clear hev hd q11 q10
          have hh1 := HGT.out
          exact .inl ⟨_, W, by go_simp, rfl, Below.refl _ _⟩
        · obtain rfl := Option.some.inj hoo
          have q10 : uu 10 = .bool false := hd 10 (by kernel_rfl)
          have q12 : uu 12 = .bool false := hd 12 (by kernel_rfl)
          refine .inl ⟨wanted_none rfl, ?_⟩
          generalize hev : Act.eval _ = ev
          have ec : ∀ c, ev (.const c) = c := fun c => by rw [← hev]; rfl
          have e59 : ev (.tmp 59) = .bool false := by rw [← hev]; exact (eval_put (by kernel_rfl) 76 rfl (by decide)).trans q10
          have e61 : ev (.tmp 61) = .bool false := by rw [← hev]; exact (eval_put (by kernel_rfl) 76 rfl (by decide)).trans q12
          clear hev hd q10 q12
          exact .inl ⟨_, W, by go_simp, rfl, Below.refl _ _⟩
        · obtain rfl := Option.some.inj hoo
          have q13 : uu 13 = .bool false := hd 13 (by kernel_rfl)
          refine .inl ⟨wanted_none rfl, ?_⟩
          generalize hev : Act.eval _ = ev
          have ec : ∀ c, ev (.const c) = c := fun c => by rw [← hev]; rfl
          have e62 : ev (.tmp 62) = .bool false := by rw [← hev]; exact (eval_put (by kernel_rfl) 76 rfl (by decide)).trans q13
          clear hev hd q13
          exact .inl ⟨_, W, by go_simp, rfl, Below.refl _ _⟩
        · obtain rfl := Option.some.inj hoo
          have q14 : uu 14 = .bool false := hd 14 (by kernel_rfl)
          refine .inl ⟨wanted_yes rfl (yielded_put (k := 63) (by kernel_rfl) (by kernel_rfl) 76 rfl (by decide) q14), ?_⟩
          generalize hev : Act.eval _ = ev
          have ec : ∀ c, ev (.const c) = c := fun c => by rw [← hev]; rfl
          have e4 : ev (.tmp 4) = .pointer (some ⟨g, 0, none⟩) := by rw [← hev]; exact eval_old (by kernel_rfl) 76 rfl (by decide) rfl
          clear hev hd q14
          exact .inl ⟨_, W, by go_simp, rfl, Below.refl _ _⟩
        · obtain rfl := Option.some.inj hoo
          have q15 : uu 15 = .pointer (some ⟨g, 1, none⟩) := hd 15 (by kernel_rfl)
          have q14 : uu 14 = .bool false := hd 14 (by kernel_rfl)
          refine .inl ⟨wanted_yes rfl (yielded_put (k := 63) (by kernel_rfl) (by kernel_rfl) 76 rfl (by decide) q14), ?_⟩
          generalize hev : Act.eval _ = ev
          have ec : ∀ c, ev (.const c) = c := fun c => by rw [← hev]; rfl
          have e64 : ev (.tmp 64) = .pointer (some ⟨g, 1, none⟩) := by rw [← hev]; exact (eval_put (by kernel_rfl) 76 rfl (by decide)).trans q15
          clear hev hd q15 q14
          exact .inl ⟨_, W, by go_simp, rfl, Below.refl _ _⟩
        · obtain rfl := Option.some.inj hoo
          have q16 : uu 16 = .pointer (some ⟨g, 1, none⟩) := hd 16 (by kernel_rfl)
          have q14 : uu 14 = .bool false := hd 14 (by kernel_rfl)
          refine .inl ⟨wanted_yes rfl (yielded_put (k := 63) (by kernel_rfl) (by kernel_rfl) 76 rfl (by decide) q14), ?_⟩
          generalize hev : Act.eval _ = ev
          have ec : ∀ c, ev (.const c) = c := fun c => by rw [← hev]; rfl
          have e65 : ev (.tmp 65) = .pointer (some ⟨g, 1, none⟩) := by rw [← hev]; exact (eval_put (by kernel_rfl) 76 rfl (by decide)).trans q16
          clear hev hd q16 q14
          obtain ⟨cc0, cc1, cc2, cc3, cc4, cc5, cc6, cc7, cc8, cc9, cc10, cc11, cc12, cc13, cc14⟩ := HS W hVW
          exact .inl ⟨_, W, by go_simp, rfl, Below.refl _ _⟩
        · obtain rfl := Option.some.inj hoo
          have q17 : uu 17 = .int .u8 (m0.toNat : Int) := hd 17 (by kernel_rfl)
          have q14 : uu 14 = .bool false := hd 14 (by kernel_rfl)
          refine .inl ⟨wanted_yes rfl (yielded_put (k := 63) (by kernel_rfl) (by kernel_rfl) 76 rfl (by decide) q14), ?_⟩
          generalize hev : Act.eval _ = ev
          have ec : ∀ c, ev (.const c) = c := fun c => by rw [← hev]; rfl
          have e66 : ev (.tmp 66) = .int .u8 (m0.toNat : Int) := by rw [← hev]; exact (eval_put (by kernel_rfl) 76 rfl (by decide)).trans q17
          clear hev hd q17 q14
          have hh1 := HM2.out
          exact .inl ⟨_, W, by go_simp, rfl, Below.refl _ _⟩
        · obtain rfl := Option.some.inj hoo
          have q18 : uu 18 = .int .u8 ((m0.toNat % 2 : Nat) : Int) := hd 18 (by kernel_rfl)
          have q14 : uu 14 = .bool false := hd 14 (by kernel_rfl)
          refine .inl ⟨wanted_yes rfl (yielded_put (k := 63) (by kernel_rfl) (by kernel_rfl) 76 rfl (by decide) q14), ?_⟩
          generalize hev : Act.eval _ = ev
          have ec : ∀ c, ev (.const c) = c := fun c => by rw [← hev]; rfl
          have e67 : ev (.tmp 67) = .int .u8 ((m0.toNat % 2 : Nat) : Int) := by rw [← hev]; exact (eval_put (by kernel_rfl) 76 rfl (by decide)).trans q18
          clear hev hd q18 q14
          have hh1 := HOD.out
          have hh2 := HO2.out
          exact .inl ⟨_, W, by go_simp, rfl, Below.refl _ _⟩
        · obtain rfl := Option.some.inj hoo
          have q14 : uu 14 = .bool false := hd 14 (by kernel_rfl)
          have q19 : uu 19 = .bool true := hd 19 (by kernel_rfl)
          refine .inl ⟨wanted_none rfl, ?_⟩
          generalize hev : Act.eval _ = ev
          have ec : ∀ c, ev (.const c) = c := fun c => by rw [← hev]; rfl
          have e63 : ev (.tmp 63) = .bool false := by rw [← hev]; exact (eval_put (by kernel_rfl) 76 rfl (by decide)).trans q14
          have e68 : ev (.tmp 68) = .bool true := by rw [← hev]; exact (eval_put (by kernel_rfl) 76 rfl (by decide)).trans q19
          clear hev hd q14 q19
          exact .inl ⟨_, W, by go_simp, rfl, Below.refl _ _⟩
        · obtain rfl := Option.some.inj hoo
          have q20 : uu 20 = .bool true := hd 20 (by kernel_rfl)
          refine .inl ⟨wanted_none rfl, ?_⟩
          generalize hev : Act.eval _ = ev
          have ec : ∀ c, ev (.const c) = c := fun c => by rw [← hev]; rfl
          have e69 : ev (.tmp 69) = .bool true := by rw [← hev]; exact (eval_put (by kernel_rfl) 76 rfl (by decide)).trans q20
          clear hev hd q20
          exact .inl ⟨_, W, by go_simp, rfl, Below.refl _ _⟩
        · obtain rfl := Option.some.inj hoo
          have q21 : uu 21 = .bool true := hd 21 (by kernel_rfl)
          exact .inr ⟨wanted_no rfl (yielded_put (k := 70) (by kernel_rfl) (by kernel_rfl) 76 rfl (by decide) q21), rfl⟩
        · obtain rfl := Option.some.inj hoo
          have q21 : uu 21 = .bool true := hd 21 (by kernel_rfl)
          exact .inr ⟨wanted_no rfl (yielded_put (k := 70) (by kernel_rfl) (by kernel_rfl) 76 rfl (by decide) q21), rfl⟩
        · obtain rfl := Option.some.inj hoo
          have q21 : uu 21 = .bool true := hd 21 (by kernel_rfl)
          refine .inl ⟨wanted_none rfl, ?_⟩
          generalize hev : Act.eval _ = ev
          have ec : ∀ c, ev (.const c) = c := fun c => by rw [← hev]; rfl
          have e70 : ev (.tmp 70) = .bool true := by rw [← hev]; exact (eval_put (by kernel_rfl) 76 rfl (by decide)).trans q21
          clear hev hd q21
          exact .inl ⟨_, W, by go_simp, rfl, Below.refl _ _⟩
        · simp at hoo
      · intro uu W hVW hall
        have q24 : uu 24 = .bool true := hall 24 (by decide)
        replace hB := hB.trans (hVW.mono hB.size)
        replace K0 := K0.next hVW
        replace K1 := K1.next hVW
        clear hall HS r28 hVW
        simp only [putAll, Act.put, Nat.reduceAdd, q24]
        simp only [List.setIfInBounds_toArray, List.set_cons_succ, List.set_cons_zero]
        obtain ⟨p0, p1, p2, p3, p4, p5, p6, p7, p8, p9, p10, p11, p12, p13, p14, -⟩ := K1.get15
        obtain ⟨qp0, qp1, qp2, qp3, qp4, qp5, qp6, qp7, qp8, qp9, qp10, qp11, qp12, qp13, qp14, qf0, qf1, qf2, qf3, qf4, qf5, qf6, qf7, qf8, qf9, qf10, qf11, qf12, qf13, qf14⟩ := K0.get15
        clear K0 K1
        go_wp2_with fail
        simp [bodyPost, results, Try.results24, go_sem, *]
        exact HE.out (fun h => by omega) _ (bset15 hB (Nat.le_refl _) (.int .u16 0) (.int .u8 0) (.int .u8 0) (.int .u8 0) (.int .u8 0) (.int .u8 0) (.int .u8 0) (.int .u32 0) (.int .u8 0) (.int .u8 0) (.int .u8 0) (.int .u8 0) (.int .u8 0) (.int .u8 0) (.int .u32 0))

end Go.Proofs.Ytiokofpmmlbncab
