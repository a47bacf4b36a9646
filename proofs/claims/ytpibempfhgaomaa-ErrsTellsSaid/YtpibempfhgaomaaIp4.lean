/- Contracts of ipv4.Parse. -/
import Derived.Test.YtpibempfhgaomaaIp3
namespace Go.Proofs.Ytpibempfhgaomaa
open Go.RowKit

theorem df_one (n : Nat) (h : n < 32768) (h2 : 16384 ≤ n) : n / 16384 % 2 * 16384 = 16384 := by
  have e : n / 16384 = 1 := by omega
  rw [e]
theorem df_none (n : Nat) (h2 : ¬ 16384 ≤ n) : n / 16384 % 2 * 16384 = 0 := by
  have e : n / 16384 = 0 := by omega
  rw [e]
theorem mf_one (n : Nat) (h : n / 8192 % 2 = 1) : n / 8192 % 2 * 8192 = 8192 := by rw [h]
theorem mf_none (n : Nat) (h : ¬ n / 8192 % 2 = 1) : n / 8192 % 2 * 8192 = 0 := by
  have e : n / 8192 % 2 = 0 := by omega
  rw [e]
theorem pparse_bad (e0 : Int) (he : e0 = 3 ∨ e0 = 4 ∨ e0 = 5) (A : Option Addr) (c : Nat) (xs : List UInt8) (w : World) (hr : Rd bv w w.heap.size A c xs)
    (HM : ∀ W, Rd bv W W.heap.size A c xs → Hid (Calls Try.prog 38 #[.slice A xs.length c] W fun e w' => e = .returned (.tuple #[.int .i64 0, .int .i64 0, .int .i64 e0]) ∧ Below W.heap.size W w')) :
    Calls Try.prog 18 #[.slice A xs.length c] w fun e w' => e = .returned (.tuple #[.agg #[.int .u8 0, .int .u16 0, .bool false, .bool false, .int .u16 0, .int .u8 0, .int .u8 0, .int .u32 0, .int .u32 0, .slice none 0 0, .slice none 0 0], .int .i64 e0]) ∧ Below w.heap.size w w' := by
  have hlc := hr.len
  have hcc := hr.cap
  have hM := fun W (h : Rd bv W W.heap.size A c xs) => HM W h
  clear HM
  rcases he with rfl | rfl | rfl
  all_goals
    go_enter Try.func18, Try.ntmps18
    go_wp2_with fail
    refine (hM _ (hr.nextA _)).out.mono ?_
    rintro e w1 ⟨rfl, hbel⟩
    have hB := bnext (bnextA (Below.refl w.heap.size w) _) hbel
    have hR := (Blk.new w #[.int .u8 0, .int .u16 0, .bool false, .bool false, .int .u16 0, .int .u8 0, .int .u8 0, .int .u32 0, .int .u32 0, .slice none 0 0, .slice none 0 0] 36).next hbel
    obtain ⟨p0, p1, p2, p3, p4, p5, p6, p7, p8, p9, p10, g0, g1, g2, g3, g4, g5, g6, g7, g8, g9, g10⟩ := hR.get11
    clear hbel hM hR
    go_wp2_with fail
    simp [bodyPost, results, Try.results18, go_sem, *]
    exact bset11 hB (Nat.le_refl _) _ _ _ _ _ _ _ _ _ _ _

set_option maxHeartbeats 8000000 in
theorem pparse_ok (A : Option Addr) (c : Nat) (xs : List UInt8) (w : World) (hr : Rd bv w w.heap.size A c xs) (h20 : 20 ≤ xs.length) (m : Nat) (hm : (xs[0]).toNat = 64 + m) (hm5 : 5 ≤ m) (hm15 : m ≤ 15) (hl : 4 * m ≤ xs.length) (hN : onesN (xs.take (4 * m)) = 65535) (fl al : Nat) (hfl : beN ((xs.drop 6).take 2) = fl) (hal : beN ((xs.drop 2).take 2) = al) (hhi : fl < 32768) (hla : 4 * m ≤ al) (hov : al ≤ xs.length) (hxl : xs.length ≤ 1000000)
    (tos : UInt8) (id : UInt16) (D M : Bool) (fo : UInt16) (ttl pr : UInt8) (s d : UInt32) (ht : xs[1] = tos) (hi : beN ((xs.drop 4).take 2) = id.toNat) (hD : decide (16384 ≤ fl) = D) (hM : decide (fl / 8192 % 2 = 1) = M) (hf : fl % 8192 = fo.toNat) (hl8 : xs[8] = ttl) (hl9 : xs[9] = pr) (hs : beN ((xs.drop 12).take 4) = s.toNat) (hd : beN ((xs.drop 16).take 4) = d.toNat) :
    Calls Try.prog 18 #[.slice A xs.length c] w fun e w' => ∃ Lo Ao co Lx Ax cx, e = .returned (.tuple #[.agg #[.int .u8 (tos.toNat : Int), .int .u16 (id.toNat : Int), .bool D, .bool M, .int .u16 (fo.toNat : Int), .int .u8 (ttl.toNat : Int), .int .u8 (pr.toNat : Int), .int .u32 (s.toNat : Int), .int .u32 (d.toNat : Int), .slice Ao Lo.length co, .slice Ax Lx.length cx], .int .i64 0]) ∧ Hid (Lo = (xs.drop 20).take (4 * m - 20)) ∧ Hid (Lx = (xs.drop (4 * m)).take (al - 4 * m)) ∧ Rd bv w' w'.heap.size Ao co Lo ∧ Rd bv w' w'.heap.size Ax cx Lx ∧ Below w.heap.size w w' := by
  have hlc := hr.len
  have hcc := hr.cap
  obtain ⟨b0, off, rfl, hB0, hcell⟩ := byt_at hr (k := 0) (by omega)
  have HME := fun W (h : Rd bv W W.heap.size (some ⟨b0, off, none⟩) c xs) => Lib.hid (pmeas_ok (some ⟨b0, off, none⟩) c xs W h h20 m hm hm5 hm15 hl hN fl al hfl hal hhi hla hov hxl)
  have i1 : (1 : Int) < (xs.length : Int) := by omega
  have i8 : (8 : Int) < (xs.length : Int) := by omega
  have i9 : (9 : Int) < (xs.length : Int) := by omega
  have HC : ∀ U, Below w.heap.size w U → U.cell? ⟨b0, off + 1, none⟩ = some (.int .u8 (tos.toNat : Int)) ∧ U.cell? ⟨b0, off + 8, none⟩ = some (.int .u8 (ttl.toNat : Int)) ∧ U.cell? ⟨b0, off + 9, none⟩ = some (.int .u8 (pr.toNat : Int)) := by
    intro U h
    rw [← ht, ← hl8, ← hl9]
    exact ⟨(h.cell hB0).trans (hcell 1 (by omega)), (h.cell hB0).trans (hcell 8 (by omega)), (h.cell hB0).trans (hcell 9 (by omega))⟩
  have hG6 := fun W (h : Rd bv W W.heap.size (some ⟨b0, off, none⟩) c xs) => Lib.hid (get16_b (some ⟨b0, off, none⟩) c xs 6 6 _ rfl W h (by omega) hfl)
  have hG4 := fun W (h : Rd bv W W.heap.size (some ⟨b0, off, none⟩) c xs) => Lib.hid (get16_b (some ⟨b0, off, none⟩) c xs 4 4 _ rfl W h (by omega) hi)
  have hG12 := fun W (h : Rd bv W W.heap.size (some ⟨b0, off, none⟩) c xs) => Lib.hid (get32_b (some ⟨b0, off, none⟩) c xs 12 12 _ rfl W h (by omega) hs)
  have hG16 := fun W (h : Rd bv W W.heap.size (some ⟨b0, off, none⟩) c xs) => Lib.hid (get32_b (some ⟨b0, off, none⟩) c xs 16 16 _ rfl W h (by omega) hd)
  have hcut1 := fun W (h : Rd bv W W.heap.size (some ⟨b0, off, none⟩) c xs) => cut_yes (some ⟨b0, off, none⟩) c xs 20 (4 * m - 20) W h (by omega) (by omega)
  have hcut2 := fun W (h : Rd bv W W.heap.size (some ⟨b0, off, none⟩) c xs) => cut_yes (some ⟨b0, off, none⟩) c xs (4 * m) (al - 4 * m) W h (by omega) (by omega)
  rw [show ((4 * m - 20 : Nat) : Int) = 4 * (m : Int) - 20 by omega] at hcut1
  rw [show ((al - 4 * m : Nat) : Int) = (al : Int) - 4 * (m : Int) by omega, show ((4 * m : Nat) : Int) = 4 * (m : Int) by omega] at hcut2
  have HCUT1 := fun W h => Lib.hid (hcut1 W h)
  have HCUT2 := fun W h => Lib.hid (hcut2 W h)
  have aD := and_df fl (by omega)
  have aM := and_mf fl (by omega)
  have aO := and_off fl (by omega)
  rw [hf] at aO
  have eD : fl / 16384 % 2 * 16384 = if D then 16384 else 0 := by
    rewrite [← hD]; by_cases h : 16384 ≤ fl
    · rewrite [decide_eq_true h, if_pos rfl]; exact df_one fl hhi h
    · rewrite [decide_eq_false h, if_neg Bool.false_ne_true]; exact df_none fl h
  have eM : fl / 8192 % 2 * 8192 = if M then 8192 else 0 := by
    rewrite [← hM]; by_cases h : fl / 8192 % 2 = 1
    · rewrite [decide_eq_true h, if_pos rfl]; exact mf_one fl h
    · rewrite [decide_eq_false h, if_neg Bool.false_ne_true]; exact mf_none fl h
  rw [eD] at aD
  rw [eM] at aM
  clear hcell hcut1 hcut2 ht hi hD hM hf hl8 hl9 hs hd hfl hal hm hN eD eM h20
  cases D <;> cases M
  all_goals
    simp only [Bool.false_eq_true, if_false, if_true, Int.ofNat_zero] at aD aM
    go_enter Try.func18, Try.ntmps18
    go_wp2_with fail
    refine (HME _ (hr.nextA _)).out.mono ?_
    rintro e w1 ⟨rfl, hbel⟩
    have hB := bnext (bnextA (Below.refl w.heap.size w) _) hbel
    have hR := (Blk.new w #[.int .u8 0, .int .u16 0, .bool false, .bool false, .int .u16 0, .int .u8 0, .int .u8 0, .int .u32 0, .int .u32 0, .slice none 0 0, .slice none 0 0] 36).next hbel
    replace hr := (hr.nextA _).next hbel
    clear hbel HME
    go_wp2_with fail
    refine (hG6 _ hr).out.mono ?_
    rintro e W ⟨rfl, hbel⟩
    replace hB := bnext hB hbel
    replace hR := hR.next hbel
    replace hr := hr.next hbel
    obtain ⟨m1, m8, m9⟩ := HC _ hB
    obtain ⟨n1, n8, n9⟩ := HC _ (bnextA hB (.cells #[.int .u8 0, .int .u16 0, .bool false, .bool false, .int .u16 0, .int .u8 0, .int .u8 0, .int .u32 0, .int .u32 0, .slice none 0 0, .slice none 0 0] 36))
    clear hbel hG6 HC
    go_wp2_with fail
    go_region
  · have hWU := (bnextA (Below.refl W.heap.size W) (.cells #[.int .u8 (tos.toNat : Int), .int .u16 0, .bool false, .bool false, .int .u16 (fo.toNat : Int), .int .u8 (ttl.toNat : Int), .int .u8 (pr.toNat : Int), .int .u32 0, .int .u32 0, .slice none 0 0, .slice none 0 0] 36)).drew
    have hK := (Blk.new W #[.int .u8 (tos.toNat : Int), .int .u16 0, .bool false, .bool false, .int .u16 (fo.toNat : Int), .int .u8 (ttl.toNat : Int), .int .u8 (pr.toNat : Int), .int .u32 0, .int .u32 0, .slice none 0 0, .slice none 0 0] 36).drew
    have hlt := hR.lt
    clear m1 m8 m9 n1 n8 n9
    go_wp2_with fail
    refine (hG4 _ (hr.next hWU)).out.mono ?_
    rintro e w3 ⟨rfl, hbel⟩
    replace hWU := bnext hWU hbel
    replace hK := hK.next hbel
    clear hbel hG4
    obtain ⟨p0, p1, p2, p3, p4, p5, p6, p7, p8, p9, p10, g0, g1, g2, g3, g4, g5, g6, g7, g8, g9, g10⟩ := hK.get11
    go_wp2_with fail
    replace hWU := hWU.setCell (p := ⟨W.heap.size, 1, none⟩) (Nat.le_refl _) (.int .u16 (id.toNat : Int))
    replace hK := hK.set 1 (.int .u16 (id.toNat : Int))
    clear p0 p1 p2 p3 p4 p5 p6 p7 p8 p9 p10 g0 g1 g2 g3 g4 g5 g6 g7 g8 g9 g10
    go_wp2_with fail
    refine (hG12 _ (hr.next hWU)).out.mono ?_
    rintro e w9 ⟨rfl, hbel⟩
    replace hWU := bnext hWU hbel
    replace hK := hK.next hbel
    clear hbel hG12
    obtain ⟨p0, p1, p2, p3, p4, p5, p6, p7, p8, p9, p10, g0, g1, g2, g3, g4, g5, g6, g7, g8, g9, g10⟩ := hK.get11
    go_wp2_with fail
    replace hWU := hWU.setCell (p := ⟨W.heap.size, 7, none⟩) (Nat.le_refl _) (.int .u32 (s.toNat : Int))
    replace hK := hK.set 7 (.int .u32 (s.toNat : Int))
    clear p0 p1 p2 p3 p4 p5 p6 p7 p8 p9 p10 g0 g1 g2 g3 g4 g5 g6 g7 g8 g9 g10
    go_wp2_with fail
    refine (hG16 _ (hr.next hWU)).out.mono ?_
    rintro e w10 ⟨rfl, hbel⟩
    replace hWU := bnext hWU hbel
    replace hK := hK.next hbel
    clear hbel hG16
    obtain ⟨p0, p1, p2, p3, p4, p5, p6, p7, p8, p9, p10, g0, g1, g2, g3, g4, g5, g6, g7, g8, g9, g10⟩ := hK.get11
    go_wp2_with fail
    replace hWU := hWU.setCell (p := ⟨W.heap.size, 8, none⟩) (Nat.le_refl _) (.int .u32 (d.toNat : Int))
    replace hK := hK.set 8 (.int .u32 (d.toNat : Int))
    clear p0 p1 p2 p3 p4 p5 p6 p7 p8 p9 p10 g0 g1 g2 g3 g4 g5 g6 g7 g8 g9 g10
    refine (HCUT1 _ (hr.next hWU)).out.mono ?_
    rintro e w10 ⟨v10, rfl, hown, hbel⟩
    obtain ⟨Lo, Ao, co, HLo, rfl, -⟩ := hown.rdv
    have hbase := hK.lt
    replace hWU := bnext hWU hbel
    replace hK := hK.next hbel
    rw [← HLo.out] at hown
    have hOo := hown
    clear hbel hown HCUT1
    obtain ⟨p0, p1, p2, p3, p4, p5, p6, p7, p8, p9, p10, g0, g1, g2, g3, g4, g5, g6, g7, g8, g9, g10⟩ := hK.get11
    go_wp2_with fail
    replace hWU := hWU.setCell (p := ⟨W.heap.size, 9, none⟩) (Nat.le_refl _) (.slice Ao Lo.length co)
    replace hK := hK.set 9 (.slice Ao Lo.length co)
    replace hOo := hOo.setBelow (p := ⟨W.heap.size, 9, none⟩) hbase (.slice Ao Lo.length co)
    clear p0 p1 p2 p3 p4 p5 p6 p7 p8 p9 p10 g0 g1 g2 g3 g4 g5 g6 g7 g8 g9 g10
    refine (HCUT2 _ (hr.next hWU)).out.mono ?_
    rintro e w11 ⟨v11, rfl, hown, hbel⟩
    obtain ⟨Lx, Ax, cx, HLx, rfl, -⟩ := hown.rdv
    have hbase2 := hK.lt
    replace hWU := bnext hWU hbel
    replace hK := hK.next hbel
    replace hOo := hOo.nextO hbel
    rw [← HLx.out] at hown
    have hOx := hown
    clear hbel hown HCUT2 hr
    obtain ⟨p0, p1, p2, p3, p4, p5, p6, p7, p8, p9, p10, g0, g1, g2, g3, g4, g5, g6, g7, g8, g9, g10⟩ := hK.get11
    obtain ⟨t0, t1, t2, t3, t4, t5, t6, t7, t8, t9, t10, s0, s1, s2, s3, s4, s5, s6, s7, s8, s9, s10⟩ := (hR.next hWU).get11
    have hne1 : ¬ w.heap.size = W.heap.size := by omega
    have hne2 : ¬ W.heap.size = w.heap.size := by omega
    replace hB := hB.trans (hWU.mono (Nat.le_of_lt hlt))
    have HO1 := Lib.hid hOo
    have HO2 := Lib.hid hOx
    clear hK hR hWU hOo hOx
    go_wp2_with fail
    simp [bodyPost, results, Try.results18, go_sem, *]
    have e1 := ((HO1.out.setBelow (p := ⟨W.heap.size, 10, none⟩) hbase (.slice Ax Lx.length cx)).set11 (g := w.heap.size) (Nat.lt_trans hlt hbase) (.int .u8 (tos.toNat : Int)) (.int .u16 (id.toNat : Int)) (.bool false) (.bool false) (.int .u16 (fo.toNat : Int)) (.int .u8 (ttl.toNat : Int)) (.int .u8 (pr.toNat : Int)) (.int .u32 (s.toNat : Int)) (.int .u32 (d.toNat : Int)) (.slice Ao Lo.length co) (.slice Ax Lx.length cx)).rdS
    have e2 := ((HO2.out.setBelow (p := ⟨W.heap.size, 10, none⟩) hbase2 (.slice Ax Lx.length cx)).set11 (g := w.heap.size) (Nat.lt_trans hlt hbase2) (.int .u8 (tos.toNat : Int)) (.int .u16 (id.toNat : Int)) (.bool false) (.bool false) (.int .u16 (fo.toNat : Int)) (.int .u8 (ttl.toNat : Int)) (.int .u8 (pr.toNat : Int)) (.int .u32 (s.toNat : Int)) (.int .u32 (d.toNat : Int)) (.slice Ao Lo.length co) (.slice Ax Lx.length cx)).rdS
    exact ⟨Lo, Ao, co, Lx, Ax, cx, ⟨⟨rfl, rfl, rfl⟩, rfl, rfl, rfl⟩, HLo, HLx, by simpa [setAll11] using e1, by simpa [setAll11] using e2, bset11 (hB.setCell (p := ⟨W.heap.size, 10, none⟩) (Nat.le_of_lt hlt) _) (Nat.le_refl _) _ _ _ _ _ _ _ _ _ _ _⟩
  · have hWU := (bnextA (Below.refl W.heap.size W) (.cells #[.int .u8 (tos.toNat : Int), .int .u16 0, .bool false, .bool true, .int .u16 (fo.toNat : Int), .int .u8 (ttl.toNat : Int), .int .u8 (pr.toNat : Int), .int .u32 0, .int .u32 0, .slice none 0 0, .slice none 0 0] 36)).drew
    have hK := (Blk.new W #[.int .u8 (tos.toNat : Int), .int .u16 0, .bool false, .bool true, .int .u16 (fo.toNat : Int), .int .u8 (ttl.toNat : Int), .int .u8 (pr.toNat : Int), .int .u32 0, .int .u32 0, .slice none 0 0, .slice none 0 0] 36).drew
    have hlt := hR.lt
    clear m1 m8 m9 n1 n8 n9
    go_wp2_with fail
    refine (hG4 _ (hr.next hWU)).out.mono ?_
    rintro e w3 ⟨rfl, hbel⟩
    replace hWU := bnext hWU hbel
    replace hK := hK.next hbel
    clear hbel hG4
    obtain ⟨p0, p1, p2, p3, p4, p5, p6, p7, p8, p9, p10, g0, g1, g2, g3, g4, g5, g6, g7, g8, g9, g10⟩ := hK.get11
    go_wp2_with fail
    replace hWU := hWU.setCell (p := ⟨W.heap.size, 1, none⟩) (Nat.le_refl _) (.int .u16 (id.toNat : Int))
    replace hK := hK.set 1 (.int .u16 (id.toNat : Int))
    clear p0 p1 p2 p3 p4 p5 p6 p7 p8 p9 p10 g0 g1 g2 g3 g4 g5 g6 g7 g8 g9 g10
    go_wp2_with fail
    refine (hG12 _ (hr.next hWU)).out.mono ?_
    rintro e w9 ⟨rfl, hbel⟩
    replace hWU := bnext hWU hbel
    replace hK := hK.next hbel
    clear hbel hG12
    obtain ⟨p0, p1, p2, p3, p4, p5, p6, p7, p8, p9, p10, g0, g1, g2, g3, g4, g5, g6, g7, g8, g9, g10⟩ := hK.get11
    go_wp2_with fail
    replace hWU := hWU.setCell (p := ⟨W.heap.size, 7, none⟩) (Nat.le_refl _) (.int .u32 (s.toNat : Int))
    replace hK := hK.set 7 (.int .u32 (s.toNat : Int))
    clear p0 p1 p2 p3 p4 p5 p6 p7 p8 p9 p10 g0 g1 g2 g3 g4 g5 g6 g7 g8 g9 g10
    go_wp2_with fail
    refine (hG16 _ (hr.next hWU)).out.mono ?_
    rintro e w10 ⟨rfl, hbel⟩
    replace hWU := bnext hWU hbel
    replace hK := hK.next hbel
    clear hbel hG16
    obtain ⟨p0, p1, p2, p3, p4, p5, p6, p7, p8, p9, p10, g0, g1, g2, g3, g4, g5, g6, g7, g8, g9, g10⟩ := hK.get11
    go_wp2_with fail
    replace hWU := hWU.setCell (p := ⟨W.heap.size, 8, none⟩) (Nat.le_refl _) (.int .u32 (d.toNat : Int))
    replace hK := hK.set 8 (.int .u32 (d.toNat : Int))
    clear p0 p1 p2 p3 p4 p5 p6 p7 p8 p9 p10 g0 g1 g2 g3 g4 g5 g6 g7 g8 g9 g10
    refine (HCUT1 _ (hr.next hWU)).out.mono ?_
    rintro e w10 ⟨v10, rfl, hown, hbel⟩
    obtain ⟨Lo, Ao, co, HLo, rfl, -⟩ := hown.rdv
    have hbase := hK.lt
    replace hWU := bnext hWU hbel
    replace hK := hK.next hbel
    rw [← HLo.out] at hown
    have hOo := hown
    clear hbel hown HCUT1
    obtain ⟨p0, p1, p2, p3, p4, p5, p6, p7, p8, p9, p10, g0, g1, g2, g3, g4, g5, g6, g7, g8, g9, g10⟩ := hK.get11
    go_wp2_with fail
    replace hWU := hWU.setCell (p := ⟨W.heap.size, 9, none⟩) (Nat.le_refl _) (.slice Ao Lo.length co)
    replace hK := hK.set 9 (.slice Ao Lo.length co)
    replace hOo := hOo.setBelow (p := ⟨W.heap.size, 9, none⟩) hbase (.slice Ao Lo.length co)
    clear p0 p1 p2 p3 p4 p5 p6 p7 p8 p9 p10 g0 g1 g2 g3 g4 g5 g6 g7 g8 g9 g10
    refine (HCUT2 _ (hr.next hWU)).out.mono ?_
    rintro e w11 ⟨v11, rfl, hown, hbel⟩
    obtain ⟨Lx, Ax, cx, HLx, rfl, -⟩ := hown.rdv
    have hbase2 := hK.lt
    replace hWU := bnext hWU hbel
    replace hK := hK.next hbel
    replace hOo := hOo.nextO hbel
    rw [← HLx.out] at hown
    have hOx := hown
    clear hbel hown HCUT2 hr
    obtain ⟨p0, p1, p2, p3, p4, p5, p6, p7, p8, p9, p10, g0, g1, g2, g3, g4, g5, g6, g7, g8, g9, g10⟩ := hK.get11
    obtain ⟨t0, t1, t2, t3, t4, t5, t6, t7, t8, t9, t10, s0, s1, s2, s3, s4, s5, s6, s7, s8, s9, s10⟩ := (hR.next hWU).get11
    have hne1 : ¬ w.heap.size = W.heap.size := by omega
    have hne2 : ¬ W.heap.size = w.heap.size := by omega
    replace hB := hB.trans (hWU.mono (Nat.le_of_lt hlt))
    have HO1 := Lib.hid hOo
    have HO2 := Lib.hid hOx
    clear hK hR hWU hOo hOx
    go_wp2_with fail
    simp [bodyPost, results, Try.results18, go_sem, *]
    have e1 := ((HO1.out.setBelow (p := ⟨W.heap.size, 10, none⟩) hbase (.slice Ax Lx.length cx)).set11 (g := w.heap.size) (Nat.lt_trans hlt hbase) (.int .u8 (tos.toNat : Int)) (.int .u16 (id.toNat : Int)) (.bool false) (.bool true) (.int .u16 (fo.toNat : Int)) (.int .u8 (ttl.toNat : Int)) (.int .u8 (pr.toNat : Int)) (.int .u32 (s.toNat : Int)) (.int .u32 (d.toNat : Int)) (.slice Ao Lo.length co) (.slice Ax Lx.length cx)).rdS
    have e2 := ((HO2.out.setBelow (p := ⟨W.heap.size, 10, none⟩) hbase2 (.slice Ax Lx.length cx)).set11 (g := w.heap.size) (Nat.lt_trans hlt hbase2) (.int .u8 (tos.toNat : Int)) (.int .u16 (id.toNat : Int)) (.bool false) (.bool true) (.int .u16 (fo.toNat : Int)) (.int .u8 (ttl.toNat : Int)) (.int .u8 (pr.toNat : Int)) (.int .u32 (s.toNat : Int)) (.int .u32 (d.toNat : Int)) (.slice Ao Lo.length co) (.slice Ax Lx.length cx)).rdS
    exact ⟨Lo, Ao, co, Lx, Ax, cx, ⟨⟨rfl, rfl, rfl⟩, rfl, rfl, rfl⟩, HLo, HLx, by simpa [setAll11] using e1, by simpa [setAll11] using e2, bset11 (hB.setCell (p := ⟨W.heap.size, 10, none⟩) (Nat.le_of_lt hlt) _) (Nat.le_refl _) _ _ _ _ _ _ _ _ _ _ _⟩
  · have hWU := (bnextA (Below.refl W.heap.size W) (.cells #[.int .u8 (tos.toNat : Int), .int .u16 0, .bool true, .bool false, .int .u16 (fo.toNat : Int), .int .u8 (ttl.toNat : Int), .int .u8 (pr.toNat : Int), .int .u32 0, .int .u32 0, .slice none 0 0, .slice none 0 0] 36)).drew
    have hK := (Blk.new W #[.int .u8 (tos.toNat : Int), .int .u16 0, .bool true, .bool false, .int .u16 (fo.toNat : Int), .int .u8 (ttl.toNat : Int), .int .u8 (pr.toNat : Int), .int .u32 0, .int .u32 0, .slice none 0 0, .slice none 0 0] 36).drew
    have hlt := hR.lt
    clear m1 m8 m9 n1 n8 n9
    go_wp2_with fail
    refine (hG4 _ (hr.next hWU)).out.mono ?_
    rintro e w3 ⟨rfl, hbel⟩
    replace hWU := bnext hWU hbel
    replace hK := hK.next hbel
    clear hbel hG4
    obtain ⟨p0, p1, p2, p3, p4, p5, p6, p7, p8, p9, p10, g0, g1, g2, g3, g4, g5, g6, g7, g8, g9, g10⟩ := hK.get11
    go_wp2_with fail
    replace hWU := hWU.setCell (p := ⟨W.heap.size, 1, none⟩) (Nat.le_refl _) (.int .u16 (id.toNat : Int))
    replace hK := hK.set 1 (.int .u16 (id.toNat : Int))
    clear p0 p1 p2 p3 p4 p5 p6 p7 p8 p9 p10 g0 g1 g2 g3 g4 g5 g6 g7 g8 g9 g10
    go_wp2_with fail
    refine (hG12 _ (hr.next hWU)).out.mono ?_
    rintro e w9 ⟨rfl, hbel⟩
    replace hWU := bnext hWU hbel
    replace hK := hK.next hbel
    clear hbel hG12
    obtain ⟨p0, p1, p2, p3, p4, p5, p6, p7, p8, p9, p10, g0, g1, g2, g3, g4, g5, g6, g7, g8, g9, g10⟩ := hK.get11
    go_wp2_with fail
    replace hWU := hWU.setCell (p := ⟨W.heap.size, 7, none⟩) (Nat.le_refl _) (.int .u32 (s.toNat : Int))
    replace hK := hK.set 7 (.int .u32 (s.toNat : Int))
    clear p0 p1 p2 p3 p4 p5 p6 p7 p8 p9 p10 g0 g1 g2 g3 g4 g5 g6 g7 g8 g9 g10
    go_wp2_with fail
    refine (hG16 _ (hr.next hWU)).out.mono ?_
    rintro e w10 ⟨rfl, hbel⟩
    replace hWU := bnext hWU hbel
    replace hK := hK.next hbel
    clear hbel hG16
    obtain ⟨p0, p1, p2, p3, p4, p5, p6, p7, p8, p9, p10, g0, g1, g2, g3, g4, g5, g6, g7, g8, g9, g10⟩ := hK.get11
    go_wp2_with fail
    replace hWU := hWU.setCell (p := ⟨W.heap.size, 8, none⟩) (Nat.le_refl _) (.int .u32 (d.toNat : Int))
    replace hK := hK.set 8 (.int .u32 (d.toNat : Int))
    clear p0 p1 p2 p3 p4 p5 p6 p7 p8 p9 p10 g0 g1 g2 g3 g4 g5 g6 g7 g8 g9 g10
    refine (HCUT1 _ (hr.next hWU)).out.mono ?_
    rintro e w10 ⟨v10, rfl, hown, hbel⟩
    obtain ⟨Lo, Ao, co, HLo, rfl, -⟩ := hown.rdv
    have hbase := hK.lt
    replace hWU := bnext hWU hbel
    replace hK := hK.next hbel
    rw [← HLo.out] at hown
    have hOo := hown
    clear hbel hown HCUT1
    obtain ⟨p0, p1, p2, p3, p4, p5, p6, p7, p8, p9, p10, g0, g1, g2, g3, g4, g5, g6, g7, g8, g9, g10⟩ := hK.get11
    go_wp2_with fail
    replace hWU := hWU.setCell (p := ⟨W.heap.size, 9, none⟩) (Nat.le_refl _) (.slice Ao Lo.length co)
    replace hK := hK.set 9 (.slice Ao Lo.length co)
    replace hOo := hOo.setBelow (p := ⟨W.heap.size, 9, none⟩) hbase (.slice Ao Lo.length co)
    clear p0 p1 p2 p3 p4 p5 p6 p7 p8 p9 p10 g0 g1 g2 g3 g4 g5 g6 g7 g8 g9 g10
    refine (HCUT2 _ (hr.next hWU)).out.mono ?_
    rintro e w11 ⟨v11, rfl, hown, hbel⟩
    obtain ⟨Lx, Ax, cx, HLx, rfl, -⟩ := hown.rdv
    have hbase2 := hK.lt
    replace hWU := bnext hWU hbel
    replace hK := hK.next hbel
    replace hOo := hOo.nextO hbel
    rw [← HLx.out] at hown
    have hOx := hown
    clear hbel hown HCUT2 hr
    obtain ⟨p0, p1, p2, p3, p4, p5, p6, p7, p8, p9, p10, g0, g1, g2, g3, g4, g5, g6, g7, g8, g9, g10⟩ := hK.get11
    obtain ⟨t0, t1, t2, t3, t4, t5, t6, t7, t8, t9, t10, s0, s1, s2, s3, s4, s5, s6, s7, s8, s9, s10⟩ := (hR.next hWU).get11
    have hne1 : ¬ w.heap.size = W.heap.size := by omega
    have hne2 : ¬ W.heap.size = w.heap.size := by omega
    replace hB := hB.trans (hWU.mono (Nat.le_of_lt hlt))
    have HO1 := Lib.hid hOo
    have HO2 := Lib.hid hOx
    clear hK hR hWU hOo hOx
    go_wp2_with fail
    simp [bodyPost, results, Try.results18, go_sem, *]
    have e1 := ((HO1.out.setBelow (p := ⟨W.heap.size, 10, none⟩) hbase (.slice Ax Lx.length cx)).set11 (g := w.heap.size) (Nat.lt_trans hlt hbase) (.int .u8 (tos.toNat : Int)) (.int .u16 (id.toNat : Int)) (.bool true) (.bool false) (.int .u16 (fo.toNat : Int)) (.int .u8 (ttl.toNat : Int)) (.int .u8 (pr.toNat : Int)) (.int .u32 (s.toNat : Int)) (.int .u32 (d.toNat : Int)) (.slice Ao Lo.length co) (.slice Ax Lx.length cx)).rdS
    have e2 := ((HO2.out.setBelow (p := ⟨W.heap.size, 10, none⟩) hbase2 (.slice Ax Lx.length cx)).set11 (g := w.heap.size) (Nat.lt_trans hlt hbase2) (.int .u8 (tos.toNat : Int)) (.int .u16 (id.toNat : Int)) (.bool true) (.bool false) (.int .u16 (fo.toNat : Int)) (.int .u8 (ttl.toNat : Int)) (.int .u8 (pr.toNat : Int)) (.int .u32 (s.toNat : Int)) (.int .u32 (d.toNat : Int)) (.slice Ao Lo.length co) (.slice Ax Lx.length cx)).rdS
    exact ⟨Lo, Ao, co, Lx, Ax, cx, ⟨⟨rfl, rfl, rfl⟩, rfl, rfl, rfl⟩, HLo, HLx, by simpa [setAll11] using e1, by simpa [setAll11] using e2, bset11 (hB.setCell (p := ⟨W.heap.size, 10, none⟩) (Nat.le_of_lt hlt) _) (Nat.le_refl _) _ _ _ _ _ _ _ _ _ _ _⟩
  · have hWU := (bnextA (Below.refl W.heap.size W) (.cells #[.int .u8 (tos.toNat : Int), .int .u16 0, .bool true, .bool true, .int .u16 (fo.toNat : Int), .int .u8 (ttl.toNat : Int), .int .u8 (pr.toNat : Int), .int .u32 0, .int .u32 0, .slice none 0 0, .slice none 0 0] 36)).drew
    have hK := (Blk.new W #[.int .u8 (tos.toNat : Int), .int .u16 0, .bool true, .bool true, .int .u16 (fo.toNat : Int), .int .u8 (ttl.toNat : Int), .int .u8 (pr.toNat : Int), .int .u32 0, .int .u32 0, .slice none 0 0, .slice none 0 0] 36).drew
    have hlt := hR.lt
    clear m1 m8 m9 n1 n8 n9
    go_wp2_with fail
    refine (hG4 _ (hr.next hWU)).out.mono ?_
    rintro e w3 ⟨rfl, hbel⟩
    replace hWU := bnext hWU hbel
    replace hK := hK.next hbel
    clear hbel hG4
    obtain ⟨p0, p1, p2, p3, p4, p5, p6, p7, p8, p9, p10, g0, g1, g2, g3, g4, g5, g6, g7, g8, g9, g10⟩ := hK.get11
    go_wp2_with fail
    replace hWU := hWU.setCell (p := ⟨W.heap.size, 1, none⟩) (Nat.le_refl _) (.int .u16 (id.toNat : Int))
    replace hK := hK.set 1 (.int .u16 (id.toNat : Int))
    clear p0 p1 p2 p3 p4 p5 p6 p7 p8 p9 p10 g0 g1 g2 g3 g4 g5 g6 g7 g8 g9 g10
    go_wp2_with fail
    refine (hG12 _ (hr.next hWU)).out.mono ?_
    rintro e w9 ⟨rfl, hbel⟩
    replace hWU := bnext hWU hbel
    replace hK := hK.next hbel
    clear hbel hG12
    obtain ⟨p0, p1, p2, p3, p4, p5, p6, p7, p8, p9, p10, g0, g1, g2, g3, g4, g5, g6, g7, g8, g9, g10⟩ := hK.get11
    go_wp2_with fail
    replace hWU := hWU.setCell (p := ⟨W.heap.size, 7, none⟩) (Nat.le_refl _) (.int .u32 (s.toNat : Int))
    replace hK := hK.set 7 (.int .u32 (s.toNat : Int))
    clear p0 p1 p2 p3 p4 p5 p6 p7 p8 p9 p10 g0 g1 g2 g3 g4 g5 g6 g7 g8 g9 g10
    go_wp2_with fail
    refine (hG16 _ (hr.next hWU)).out.mono ?_
    rintro e w10 ⟨rfl, hbel⟩
    replace hWU := bnext hWU hbel
    replace hK := hK.next hbel
    clear hbel hG16
    obtain ⟨p0, p1, p2, p3, p4, p5, p6, p7, p8, p9, p10, g0, g1, g2, g3, g4, g5, g6, g7, g8, g9, g10⟩ := hK.get11
    go_wp2_with fail
    replace hWU := hWU.setCell (p := ⟨W.heap.size, 8, none⟩) (Nat.le_refl _) (.int .u32 (d.toNat : Int))
    replace hK := hK.set 8 (.int .u32 (d.toNat : Int))
    clear p0 p1 p2 p3 p4 p5 p6 p7 p8 p9 p10 g0 g1 g2 g3 g4 g5 g6 g7 g8 g9 g10
    refine (HCUT1 _ (hr.next hWU)).out.mono ?_
    rintro e w10 ⟨v10, rfl, hown, hbel⟩
    obtain ⟨Lo, Ao, co, HLo, rfl, -⟩ := hown.rdv
    have hbase := hK.lt
    replace hWU := bnext hWU hbel
    replace hK := hK.next hbel
    rw [← HLo.out] at hown
    have hOo := hown
    clear hbel hown HCUT1
    obtain ⟨p0, p1, p2, p3, p4, p5, p6, p7, p8, p9, p10, g0, g1, g2, g3, g4, g5, g6, g7, g8, g9, g10⟩ := hK.get11
    go_wp2_with fail
    replace hWU := hWU.setCell (p := ⟨W.heap.size, 9, none⟩) (Nat.le_refl _) (.slice Ao Lo.length co)
    replace hK := hK.set 9 (.slice Ao Lo.length co)
    replace hOo := hOo.setBelow (p := ⟨W.heap.size, 9, none⟩) hbase (.slice Ao Lo.length co)
    clear p0 p1 p2 p3 p4 p5 p6 p7 p8 p9 p10 g0 g1 g2 g3 g4 g5 g6 g7 g8 g9 g10
    refine (HCUT2 _ (hr.next hWU)).out.mono ?_
    rintro e w11 ⟨v11, rfl, hown, hbel⟩
    obtain ⟨Lx, Ax, cx, HLx, rfl, -⟩ := hown.rdv
    have hbase2 := hK.lt
    replace hWU := bnext hWU hbel
    replace hK := hK.next hbel
    replace hOo := hOo.nextO hbel
    rw [← HLx.out] at hown
    have hOx := hown
    clear hbel hown HCUT2 hr
    obtain ⟨p0, p1, p2, p3, p4, p5, p6, p7, p8, p9, p10, g0, g1, g2, g3, g4, g5, g6, g7, g8, g9, g10⟩ := hK.get11
    obtain ⟨t0, t1, t2, t3, t4, t5, t6, t7, t8, t9, t10, s0, s1, s2, s3, s4, s5, s6, s7, s8, s9, s10⟩ := (hR.next hWU).get11
    have hne1 : ¬ w.heap.size = W.heap.size := by omega
    have hne2 : ¬ W.heap.size = w.heap.size := by omega
    replace hB := hB.trans (hWU.mono (Nat.le_of_lt hlt))
    have HO1 := Lib.hid hOo
    have HO2 := Lib.hid hOx
    clear hK hR hWU hOo hOx
    go_wp2_with fail
    simp [bodyPost, results, Try.results18, go_sem, *]
    have e1 := ((HO1.out.setBelow (p := ⟨W.heap.size, 10, none⟩) hbase (.slice Ax Lx.length cx)).set11 (g := w.heap.size) (Nat.lt_trans hlt hbase) (.int .u8 (tos.toNat : Int)) (.int .u16 (id.toNat : Int)) (.bool true) (.bool true) (.int .u16 (fo.toNat : Int)) (.int .u8 (ttl.toNat : Int)) (.int .u8 (pr.toNat : Int)) (.int .u32 (s.toNat : Int)) (.int .u32 (d.toNat : Int)) (.slice Ao Lo.length co) (.slice Ax Lx.length cx)).rdS
    have e2 := ((HO2.out.setBelow (p := ⟨W.heap.size, 10, none⟩) hbase2 (.slice Ax Lx.length cx)).set11 (g := w.heap.size) (Nat.lt_trans hlt hbase2) (.int .u8 (tos.toNat : Int)) (.int .u16 (id.toNat : Int)) (.bool true) (.bool true) (.int .u16 (fo.toNat : Int)) (.int .u8 (ttl.toNat : Int)) (.int .u8 (pr.toNat : Int)) (.int .u32 (s.toNat : Int)) (.int .u32 (d.toNat : Int)) (.slice Ao Lo.length co) (.slice Ax Lx.length cx)).rdS
    exact ⟨Lo, Ao, co, Lx, Ax, cx, ⟨⟨rfl, rfl, rfl⟩, rfl, rfl, rfl⟩, HLo, HLx, by simpa [setAll11] using e1, by simpa [setAll11] using e2, bset11 (hB.setCell (p := ⟨W.heap.size, 10, none⟩) (Nat.le_of_lt hlt) _) (Nat.le_refl _) _ _ _ _ _ _ _ _ _ _ _⟩

end Go.Proofs.Ytpibempfhgaomaa
