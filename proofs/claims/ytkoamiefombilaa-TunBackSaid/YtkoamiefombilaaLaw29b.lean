/- The walk of the statement that what is borne is what was wrapped. -/
import Derived.Test.YtkoamiefombilaaLaw29
import Derived.Test.YtkoamiefombilaaReg6
namespace Go.Proofs.Ytkoamiefombilaa
open Go.RowKit

set_option maxHeartbeats 16000000 in
set_option maxRecDepth 20000 in
theorem tun_back (cs : Array Value) (hcz : cs.size = 40) (b1 : UInt32) (h13 : cs.toList[13]? = some (.int .u32 (b1.toNat : Int))) (mtu0 : Int) (h17 : cs.toList[17]? = some (.int .i64 mtu0)) (v20 : Int) (h20 : cs.toList[20]? = some (.int .u64 v20)) (tos : UInt8) (id : UInt16) (D M : Bool) (fo : UInt16) (ttl pr : UInt8) (s d : UInt32) (a8 a9 a2 : Option Addr) (len8 cap8 len9 cap9 len2 cap2 : Nat) (os xs bs : List UInt8) (to : UInt32) (nid : UInt16) (w : World) (hol : os.length ≤ 50) (hxl : xs.length ≤ 300) (hbl : bs.length ≤ 30) (ho0 : Rd bv w w.heap.size a8 cap8 os) (hx0 : Rd bv w w.heap.size a9 cap9 xs) (hb0 : Rd bv w w.heap.size a2 cap2 bs)
    (HF : ∀ W, Hid (Calls Try.prog 14 #[.agg #[.int .u8 (tos.toNat : Int), .int .u16 (id.toNat : Int), .bool D, .bool M, .int .u16 (fo.toNat : Int), .int .u8 (ttl.toNat : Int), .int .u8 (pr.toNat : Int), .int .u32 (s.toNat : Int), .int .u32 (d.toNat : Int), .slice a8 len8 cap8, .slice a9 len9 cap9]] W fun e w' => e = .returned (.agg #[.int .u8 (tos.toNat : Int), .int .u16 (id.toNat : Int), .bool D, .bool M, .int .u16 (fo.toNat : Int), .int .u8 (ttl.toNat : Int), .int .u8 (pr.toNat : Int), .int .u32 (s.toNat : Int), .int .u32 (d.toNat : Int), .slice a8 os.length cap8, .slice a9 xs.length cap9]) ∧ Below W.heap.size W w'))
    (HFb : ∀ W, Hid (Calls Try.prog 32 #[.slice a2 len2 cap2, .int .i64 30] W fun e w' => e = .returned (.slice a2 bs.length cap2) ∧ Below W.heap.size W w')) :
    Calls Try.prog 8 #[.agg cs, .agg #[.int .u8 (tos.toNat : Int), .int .u16 (id.toNat : Int), .bool D, .bool M, .int .u16 (fo.toNat : Int), .int .u8 (ttl.toNat : Int), .int .u8 (pr.toNat : Int), .int .u32 (s.toNat : Int), .int .u32 (d.toNat : Int), .slice a8 len8 cap8, .slice a9 len9 cap9], .slice a2 len2 cap2, .int .u32 (to.toNat : Int), .int .u16 (nid.toNat : Int)] w fun e w' => e = .returned (.bool true) ∧ Below w.heap.size w w' := by
  by_cases hok : os.length ≤ 40 ∧ os.length % 4 = 0 ∧ fo.toNat ≤ 8191
  · obtain ⟨h1, h2, h3⟩ := hok
    obtain ⟨h8, hh⟩ : ∃ h : UInt8, h.toNat = 69 + os.length / 4 := ⟨UInt8.ofNat (69 + os.length / 4), by simp; omega⟩
    obtain ⟨N, hN⟩ : ∃ N, onesN (ih h8 tos (20 + os.length + xs.length) id (wdN D M fo) ttl pr 0 s d os) = N := ⟨_, rfl⟩
    have HP1 : ∀ W (g1 : Rd bv W W.heap.size a8 cap8 os) (g2 : Rd bv W W.heap.size a9 cap9 xs), Hid (Calls Try.prog 40 #[.agg #[.int .u8 (tos.toNat : Int), .int .u16 (id.toNat : Int), .bool D, .bool M, .int .u16 (fo.toNat : Int), .int .u8 (ttl.toNat : Int), .int .u8 (pr.toNat : Int), .int .u32 (s.toNat : Int), .int .u32 (d.toNat : Int), .slice a8 os.length cap8, .slice a9 xs.length cap9]] W fun e w' => ∃ L A c, e = .returned (.tuple #[.slice A L.length c, .int .i64 0]) ∧ Hid (L = ih h8 tos (20 + os.length + xs.length) id (wdN D M fo) ttl pr (65535 - N) s d os ++ xs) ∧ Rd bv w' w'.heap.size A c L ∧ Below W.heap.size W w') := fun W g1 g2 => Lib.hid (rpput_ok tos id D M fo ttl pr s d a8 a9 cap8 cap9 os xs W g1 g2 h1 h2 h3 (by omega) h8 hh N hN)
    obtain ⟨cs2, hcs2⟩ : ∃ cs2 : Array Value, cs2 = cs.setIfInBounds 17 (.int .i64 1500) := ⟨_, rfl⟩
    have hcl2 : cs.toList.set 17 (.int .i64 1500) = cs2.toList := by rw [hcs2]; simp
    have hcz2 : cs2.size = 40 := by rw [hcs2]; simpa using hcz
    have h132 : cs2.toList[13]? = some (.int .u32 (b1.toNat : Int)) := by rw [← hcl2, List.getElem?_set_ne (by omega)]; exact h13
    have h172 : cs2.toList[17]? = some (.int .i64 1500) := by rw [← hcl2, List.getElem?_set_self (by simp; omega)]
    go_enter Try.func8, Try.ntmps8
    go_wp2_with fail
    refine (HF _).out.mono ?_
    rintro e w_1 ⟨rfl, hbel⟩
    have hB := bnext (bnextA (bnextA (Below.refl w.heap.size w) (.cells cs 79)) (.cells #[.int .u8 (tos.toNat : Int), .int .u16 (id.toNat : Int), .bool D, .bool M, .int .u16 (fo.toNat : Int), .int .u8 (ttl.toNat : Int), .int .u8 (pr.toNat : Int), .int .u32 (s.toNat : Int), .int .u32 (d.toNat : Int), .slice a8 len8 cap8, .slice a9 len9 cap9] 38)) hbel
    have KC := ((Blk.new w cs 79).alloc (.cells #[.int .u8 (tos.toNat : Int), .int .u16 (id.toNat : Int), .bool D, .bool M, .int .u16 (fo.toNat : Int), .int .u8 (ttl.toNat : Int), .int .u8 (pr.toNat : Int), .int .u32 (s.toNat : Int), .int .u32 (d.toNat : Int), .slice a8 len8 cap8, .slice a9 len9 cap9] 38)).next hbel
    have hK : Blk w_1 (w.heap.size + 1) [.int .u8 (tos.toNat : Int), .int .u16 (id.toNat : Int), .bool D, .bool M, .int .u16 (fo.toNat : Int), .int .u8 (ttl.toNat : Int), .int .u8 (pr.toNat : Int), .int .u32 (s.toNat : Int), .int .u32 (d.toNat : Int), .slice a8 len8 cap8, .slice a9 len9 cap9] 38 := by
      have := (Blk.new (w.alloc (.cells cs 79)) #[.int .u8 (tos.toNat : Int), .int .u16 (id.toNat : Int), .bool D, .bool M, .int .u16 (fo.toNat : Int), .int .u8 (ttl.toNat : Int), .int .u8 (pr.toNat : Int), .int .u32 (s.toNat : Int), .int .u32 (d.toNat : Int), .slice a8 len8 cap8, .slice a9 len9 cap9] 38).next hbel
      simpa using this
    obtain ⟨p0, p1, p2, p3, p4, p5, p6, p7, p8, p9, p10, g0, g1, g2, g3, g4, g5, g6, g7, g8, g9, g10⟩ := hK.get11
    clear hbel HF
    go_wp2_with fail
    have hBV := bset11 hB (Nat.le_succ _) (.int .u8 (tos.toNat : Int)) (.int .u16 (id.toNat : Int)) (.bool D) (.bool M) (.int .u16 (fo.toNat : Int)) (.int .u8 (ttl.toNat : Int)) (.int .u8 (pr.toNat : Int)) (.int .u32 (s.toNat : Int)) (.int .u32 (d.toNat : Int)) (.slice a8 os.length cap8) (.slice a9 xs.length cap9)
    have hKV := hK.set11 (u0 := .int .u8 (tos.toNat : Int)) (u1 := .int .u16 (id.toNat : Int)) (u2 := .bool D) (u3 := .bool M) (u4 := .int .u16 (fo.toNat : Int)) (u5 := .int .u8 (ttl.toNat : Int)) (u6 := .int .u8 (pr.toNat : Int)) (u7 := .int .u32 (s.toNat : Int)) (u8 := .int .u32 (d.toNat : Int)) (u9 := .slice a8 os.length cap8) (u10 := .slice a9 xs.length cap9)
    have KCV := KC.oth11 (g' := w.heap.size + 1) (by omega) (u0 := .int .u8 (tos.toNat : Int)) (u1 := .int .u16 (id.toNat : Int)) (u2 := .bool D) (u3 := .bool M) (u4 := .int .u16 (fo.toNat : Int)) (u5 := .int .u8 (ttl.toNat : Int)) (u6 := .int .u8 (pr.toNat : Int)) (u7 := .int .u32 (s.toNat : Int)) (u8 := .int .u32 (d.toNat : Int)) (u9 := .slice a8 os.length cap8) (u10 := .slice a9 xs.length cap9)
    simp only [setAll11] at hBV hKV KCV
    clear p0 p1 p2 p3 p4 p5 p6 p7 p8 p9 p10 g0 g1 g2 g3 g4 g5 g6 g7 g8 g9 g10 hB hK KC
    generalize (((((((((((w_1.setCell ⟨w.heap.size + 1, 0, none⟩ (.int .u8 (tos.toNat : Int))).setCell ⟨w.heap.size + 1, 1, none⟩ (.int .u16 (id.toNat : Int))).setCell ⟨w.heap.size + 1, 2, none⟩ (.bool D)).setCell ⟨w.heap.size + 1, 3, none⟩ (.bool M)).setCell ⟨w.heap.size + 1, 4, none⟩ (.int .u16 (fo.toNat : Int))).setCell ⟨w.heap.size + 1, 5, none⟩ (.int .u8 (ttl.toNat : Int))).setCell ⟨w.heap.size + 1, 6, none⟩ (.int .u8 (pr.toNat : Int))).setCell ⟨w.heap.size + 1, 7, none⟩ (.int .u32 (s.toNat : Int))).setCell ⟨w.heap.size + 1, 8, none⟩ (.int .u32 (d.toNat : Int))).setCell ⟨w.heap.size + 1, 9, none⟩ (.slice a8 os.length cap8)).setCell ⟨w.heap.size + 1, 10, none⟩ (.slice a9 xs.length cap9)) = V at hBV hKV KCV ⊢
    have ho := ho0.next hBV
    have hx := hx0.next hBV
    have hB := hBV
    have hK := hKV
    have KC := KCV
    clear hBV hKV KCV ho0 hx0
    obtain ⟨p0, p1, p2, p3, p4, p5, p6, p7, p8, p9, p10, -⟩ := hK.get11
    refine (HP1 _ ho hx).out.mono ?_
    rintro e w_2 ⟨Lb, Ab, cb, rfl, HLb, rb, hbel⟩
    replace hB := bnext hB hbel
    replace KC := KC.next hbel
    have HLB : Hid (20 ≤ Lb.length) := by rw [HLb.out, List.length_append, ih_len]; simp only [Hid]; omega
    obtain ⟨bb, ob, rfl, -, hcb⟩ := byt_at rb (k := 0) (by have := HLB.out; omega)
    have hnb : bb ≠ w.heap.size := by
      have hlb := HLB.out
      rintro rfl
      have hlt : ob ≤ 20 := by
        by_cases h : ob ≤ 20
        · exact h
        · have h1 := hcb 19 (by omega)
          rw [KC.cell, List.getElem?_eq_none (by simp; omega)] at h1
          cases h1
      by_cases h13' : ob ≤ 13
      · have h1 := hcb (13 - ob) (by omega)
        rw [show ob + (13 - ob) = 13 by omega, KC.cell, h13] at h1
        cases h1
      · by_cases h17' : ob ≤ 17
        · have h1 := hcb (17 - ob) (by omega)
          rw [show ob + (17 - ob) = 17 by omega, KC.cell, h17] at h1
          cases h1
        · have h1 := hcb (20 - ob) (by omega)
          rw [show ob + (20 - ob) = 20 by omega, KC.cell, h20] at h1
          cases h1
    have c17 := (KC.cell 17).trans h17
    have f17 := KC.frozen 17
    clear hbel HP1 ho hx hcb p0 p1 p2 p3 p4 p5 p6 p7 p8 p9 p10 hK h20
    go_wp2_with fail
    have rb' := rb.othr hnb 17 (.int .i64 1500)
    have KC' := KC.set 17 (.int .i64 1500)
    rw [hcl2] at KC'
    have hB' := hB.setCell (p := ⟨w.heap.size, 17, none⟩) (Nat.le_refl _) (.int .i64 1500)
    clear rb KC hB c17 f17 hnb h13 h17 hcl2 hcs2 hcz
    have rb : Rd bv (w_2.setCell ⟨w.heap.size, 17, none⟩ (.int .i64 1500)) (w_2.setCell ⟨w.heap.size, 17, none⟩ (.int .i64 1500)).heap.size (some ⟨bb, ob, none⟩) cb Lb := by simpa using rb'
    have KC := KC'
    have hB := hB'
    clear rb' KC' hB'
    generalize w_2.setCell ⟨w.heap.size, 17, none⟩ (.int .i64 1500) = V at *
    have hb := hb0.next hB
    clear hb0
    have hk := ipok_put h8 tos id D M fo ttl pr s d os xs bs (Lb ++ bs) N h1 h2 h3 (by omega) hh hN (by rw [HLb.out, List.append_assoc])
    have hk1 := ipok_put h8 tos id D M fo ttl pr s d os xs [] Lb N h1 h2 h3 (by omega) hh hN (by rw [HLb.out, List.append_nil])
    have hlb : Lb.length = 20 + os.length + xs.length := by rw [HLb.out, List.length_append, ih_len]
    rw [← hlb] at hk hk1
    have HADD : ∀ W, Rd bv W W.heap.size (some ⟨bb, ob, none⟩) cb Lb → Rd bv W W.heap.size a2 cap2 bs → Hid (Calls Try.prog 41 #[.slice (some ⟨bb, ob, none⟩) Lb.length cb, .slice a2 bs.length cap2] W fun e w' => ∃ L A1 c1, e = .returned (.slice A1 L.length c1) ∧ Hid (L = Lb ++ bs) ∧ Rd bv w' w'.heap.size A1 c1 L ∧ Below W.heap.size W w') := by
      intro W g1 g2
      refine Lib.hid ((radd_any _ _ _ _ Lb bs W g1 g2 (by omega)).mono ?_)
      rintro e w' ⟨v, rfl, ho, hb⟩
      obtain ⟨L, A1, c1, HL, rfl, hrd⟩ := ho.rdv
      exact ⟨L, A1, c1, rfl, HL, hrd, hb⟩
    have HWR : ∀ W A4 c4 L4, Hid (L4 = Lb ++ bs) → Rd bv W W.heap.size A4 c4 L4 → Hid (Calls Try.prog 33 #[.agg cs2, .slice A4 L4.length c4, .int .u32 (to.toNat : Int), .int .u16 (nid.toNat : Int)] W fun e w' => ∃ L A1 c1, e = .returned (.tuple #[.agg #[.int .u8 (tos.toNat : Int), .int .u16 (nid.toNat : Int), .bool D, .bool false, .int .u16 0, .int .u8 64, .int .u8 4, .int .u32 (b1.toNat : Int), .int .u32 (to.toNat : Int), .slice none 0 0, .slice A1 L.length c1], .int .i64 0]) ∧ Hid (L = Lb) ∧ Rd bv w' w'.heap.size A1 c1 L ∧ Below W.heap.size W w') := by
      intro W A4 c4 L4 HL g
      have hL4 : L4.length = Lb.length + bs.length := by rw [HL.out, List.length_append]
      refine Lib.hid ((twrap_ok cs2 hcz2 b1 h132 1500 h172 to nid A4 c4 L4 W g (by omega) (by rw [HL.out]; exact hk) (by omega)).mono ?_)
      rintro e w' ⟨L, A1, c1, rfl, HL', hrd, hb⟩
      exact ⟨L, A1, c1, rfl, by rw [HL'.out, HL.out, List.take_left' rfl]; rfl, hrd, hb⟩
    obtain ⟨z16, e16⟩ : ∃ a : UInt16, (a.toNat : Int) = 0 := ⟨0, rfl⟩
    obtain ⟨t64, e64⟩ : ∃ a : UInt8, (a.toNat : Int) = 64 := ⟨64, rfl⟩
    obtain ⟨p4, ep4⟩ : ∃ a : UInt8, (a.toNat : Int) = 4 := ⟨4, rfl⟩
    obtain ⟨h5, eh5⟩ : ∃ a : UInt8, a.toNat = 69 := ⟨69, rfl⟩
    obtain ⟨N2, hN2⟩ : ∃ N2, onesN (ih h5 tos (20 + ([] : List UInt8).length + Lb.length) nid (wdN D false z16) t64 p4 0 b1 to []) = N2 := ⟨_, rfl⟩
    have HPX : ∀ L A c W, Hid (L = Lb) → Rd bv W W.heap.size A c L → Hid (Calls Try.prog 15 #[.agg #[.int .u8 (tos.toNat : Int), .int .u16 (nid.toNat : Int), .bool D, .bool false, .int .u16 0, .int .u8 64, .int .u8 4, .int .u32 (b1.toNat : Int), .int .u32 (to.toNat : Int), .slice none 0 0, .slice A L.length c]] W fun e w' => ∃ L' A' c', e = .returned (.tuple #[.slice A' L'.length c', .int .i64 0]) ∧ Hid (L' = ih h5 tos (20 + ([] : List UInt8).length + Lb.length) nid (wdN D false z16) t64 p4 (65535 - N2) b1 to [] ++ Lb) ∧ Rd bv w' w'.heap.size A' c' L' ∧ Below W.heap.size W w') := by
      intro L A c W HL g
      have hL := HL.out
      subst hL
      have h := pput_ok tos nid D false z16 t64 p4 b1 to none A 0 c [] L W (Rd.nil0 _ _ _) g (by simp) (by simp) (by omega) (by simp; omega) h5 (by simp; omega) N2 hN2
      simp only [e16, e64, ep4] at h
      exact Lib.hid h
    have HRX : ∀ L A c W, Hid (L = ih h5 tos (20 + ([] : List UInt8).length + Lb.length) nid (wdN D false z16) t64 p4 (65535 - N2) b1 to [] ++ Lb) → Rd bv W W.heap.size A c L → Hid (Calls Try.prog 42 #[.slice A L.length c] W fun e w' => ∃ (Lo : List UInt8) (Ao : Option Addr) (co : Nat) (Lx : List UInt8) (Ax : Option Addr) (cx : Nat), e = .returned (.tuple #[.agg #[.int .u8 (tos.toNat : Int), .int .u16 (nid.toNat : Int), .bool D, .bool false, .int .u16 0, .int .u8 64, .int .u8 4, .int .u32 (b1.toNat : Int), .int .u32 (to.toNat : Int), .slice Ao Lo.length co, .slice Ax Lx.length cx], .int .i64 0]) ∧ Hid (Lx = Lb) ∧ Rd bv w' w'.heap.size Ax cx Lx ∧ Below W.heap.size W w') := by
      intro L A c W HL g
      have h := pparse_put tos nid D false z16 t64 p4 b1 to [] Lb [] L h5 N2 (by simp) (by simp) (by omega) (by simp; omega) (by simp) (by simp; omega) hN2 (by rw [HL.out, List.append_nil]) A c W g
      simp only [e16, e64, ep4] at h
      refine Lib.hid (h.mono ?_)
      rintro e w' ⟨Lo, Ao, co, Lx, Ax, cx, rfl, -, HLx, -, rx, hb⟩
      exact ⟨Lo, Ao, co, Lx, Ax, cx, rfl, HLx, rx, hb⟩
    have HOX : ∀ A1 n1 c1 L A c W, Hid (L = Lb) → Rd bv W W.heap.size A c L → Hid (Calls Try.prog 35 #[.agg #[.int .u8 (tos.toNat : Int), .int .u16 (nid.toNat : Int), .bool D, .bool false, .int .u16 0, .int .u8 64, .int .u8 4, .int .u32 (b1.toNat : Int), .int .u32 (to.toNat : Int), .slice A1 n1 c1, .slice A L.length c]] W fun e w' => ∃ L' A' c', e = .returned (.tuple #[.slice A' L'.length c', .int .i64 0]) ∧ Hid (L' = Lb) ∧ Rd bv w' w'.heap.size A' c' L' ∧ Below W.heap.size W w') := by
      intro A1 n1 c1 L A c W HL g
      have hL := HL.out
      subst hL
      have h := topen_ok tos nid D false z16 t64 p4 b1 to A1 n1 c1 A c L W g (by rw [ep4]; rfl) (by simp [partB]; omega) (by omega) hk1
      simp only [e16, e64, ep4] at h
      refine Lib.hid (h.mono ?_)
      rintro e w' ⟨L', A', c', rfl, HL', hrd, hb⟩
      exact ⟨L', A', c', rfl, by rw [HL'.out, List.take_length]; rfl, hrd, hb⟩
    have HLEN : ∀ L : List UInt8, Hid (L = ih h5 tos (20 + ([] : List UInt8).length + Lb.length) nid (wdN D false z16) t64 p4 (65535 - N2) b1 to [] ++ Lb) → IntKind.i64.wrap ((Lb.length : Int) + 20) = (L.length : Int) := by
      intro L HL
      rw [HL.out, List.length_append, ih_len, IntKind.wrap_i64]
      simp
      omega
    clear hk hk1 e16 e64 ep4 eh5 hN2 h132 h172 hlb hN hh h1 h2 h3 HLb hol hxl hbl
    refine region_put_tail (by kernel_rfl) (by kernel_rfl) (by kernel_rfl) 86 rfl (by kernel_rfl) V (fun i v W => match i with
        | 0 => v = .agg cs2
        | 1 => v = .slice (some ⟨bb, ob, none⟩) Lb.length cb
        | 2 => v = .slice a2 len2 cap2
        | 3 => v = .slice a2 bs.length cap2
        | 4 => ∃ L A c, v = .slice A L.length c ∧ Hid (L = Lb ++ bs) ∧ Rd bv W W.heap.size A c L
        | 5 => v = .int .u32 (to.toNat : Int)
        | 6 => v = .int .u16 (nid.toNat : Int)
        | 7 => ∃ L A c, v = .tuple #[.agg #[.int .u8 (tos.toNat : Int), .int .u16 (nid.toNat : Int), .bool D, .bool false, .int .u16 0, .int .u8 64, .int .u8 4, .int .u32 (b1.toNat : Int), .int .u32 (to.toNat : Int), .slice none 0 0, .slice A L.length c], .int .i64 0] ∧ Hid (L = Lb) ∧ Rd bv W W.heap.size A c L
        | 8 => ∃ L A c, v = .tuple #[.agg #[.int .u8 (tos.toNat : Int), .int .u16 (nid.toNat : Int), .bool D, .bool false, .int .u16 0, .int .u8 64, .int .u8 4, .int .u32 (b1.toNat : Int), .int .u32 (to.toNat : Int), .slice none 0 0, .slice A L.length c], .int .i64 0] ∧ Hid (L = Lb) ∧ Rd bv W W.heap.size A c L
        | 9 => ∃ L A c, v = .agg #[.int .u8 (tos.toNat : Int), .int .u16 (nid.toNat : Int), .bool D, .bool false, .int .u16 0, .int .u8 64, .int .u8 4, .int .u32 (b1.toNat : Int), .int .u32 (to.toNat : Int), .slice none 0 0, .slice A L.length c] ∧ Hid (L = Lb) ∧ Rd bv W W.heap.size A c L
        | 10 => v = .int .i64 0
        | 11 => ∃ g, v = .pointer (some ⟨g, 0, none⟩) ∧ V.heap.size ≤ g ∧ Blk W g [.int .u8 0, .int .u16 0, .bool false, .bool false, .int .u16 0, .int .u8 0, .int .u8 0, .int .u32 0, .int .u32 0, .slice none 0 0, .slice none 0 0] 38
        | _ => True) (Below.refl _ _) 12 2 (by decide) rfl (fun i => i == 10) (fun i h => by simp; omega) (by kernel_rfl) (fun q uu W => match q with
        | 0 => ∃ L9 A9 c9 g11, uu 9 = .agg #[.int .u8 (tos.toNat : Int), .int .u16 (nid.toNat : Int), .bool D, .bool false, .int .u16 0, .int .u8 64, .int .u8 4, .int .u32 (b1.toNat : Int), .int .u32 (to.toNat : Int), .slice none 0 0, .slice A9 L9.length c9] ∧ uu 11 = .pointer (some ⟨g11, 0, none⟩) ∧ Hid (L9 = Lb) ∧ V.heap.size ≤ g11 ∧ Rd bv W W.heap.size A9 c9 L9 ∧ Blk W g11 [.int .u8 0, .int .u16 0, .bool false, .bool false, .int .u16 0, .int .u8 0, .int .u8 0, .int .u32 0, .int .u32 0, .slice none 0 0, .slice none 0 0] 38 ∧ Below V.heap.size V W
        | 1 => ∃ L9 b9 off9 c9 g11, uu 11 = .pointer (some ⟨g11, 0, none⟩) ∧ Hid (L9 = Lb) ∧ V.heap.size ≤ g11 ∧ Rd bv W W.heap.size (some ⟨b9, off9, none⟩) c9 L9 ∧ Blk W g11 [.int .u8 (tos.toNat : Int), .int .u16 (nid.toNat : Int), .bool D, .bool false, .int .u16 0, .int .u8 64, .int .u8 4, .int .u32 (b1.toNat : Int), .int .u32 (to.toNat : Int), .slice none 0 0, .slice (some ⟨b9, off9, none⟩) L9.length c9] 38 ∧ Below V.heap.size V W
        | 2 => ∃ L9 b9 off9 c9 g11, uu 13 = .int .i64 0 ∧ uu 11 = .pointer (some ⟨g11, 0, none⟩) ∧ Hid (L9 = Lb) ∧ V.heap.size ≤ g11 ∧ Rd bv W W.heap.size (some ⟨b9, off9, none⟩) c9 L9 ∧ Blk W g11 [.int .u8 (tos.toNat : Int), .int .u16 (nid.toNat : Int), .bool D, .bool false, .int .u16 0, .int .u8 64, .int .u8 4, .int .u32 (b1.toNat : Int), .int .u32 (to.toNat : Int), .slice none 0 0, .slice (some ⟨b9, off9, none⟩) L9.length c9] 38 ∧ Below V.heap.size V W
        | _ => True) ?_ ?_ ?_ ?_ ?_ ?_ ?_ ?_
    · intro i v W W' h hb
      match i, h with
      | 0, h => exact h
      | 1, h => exact h
      | 2, h => exact h
      | 3, h => exact h
      | 4, h => obtain ⟨L, A, c, h1, h2, h3⟩ := h; exact ⟨L, A, c, h1, h2, h3.next hb⟩
      | 5, h => exact h
      | 6, h => exact h
      | 7, h => obtain ⟨L, A, c, h1, h2, h3⟩ := h; exact ⟨L, A, c, h1, h2, h3.next hb⟩
      | 8, h => obtain ⟨L, A, c, h1, h2, h3⟩ := h; exact ⟨L, A, c, h1, h2, h3.next hb⟩
      | 9, h => obtain ⟨L, A, c, h1, h2, h3⟩ := h; exact ⟨L, A, c, h1, h2, h3.next hb⟩
      | 10, h => exact h
      | 11, h => obtain ⟨g, h1, h2, h3⟩ := h; exact ⟨g, h1, h2, h3.next hb⟩
      | _ + 12, _ => trivial
    · intro i oo uu W him hoo hVW hd hold
      rcases i with _|_|_|_|_|_|_|_|_|_|_|_|i
      · obtain rfl := Option.some.inj hoo
        refine .inl ⟨wanted_none rfl, ?_⟩
        generalize hev : Act.eval _ = ev
        have ec : ∀ c, ev (.const c) = c := fun c => by rw [← hev]; rfl
        have e5 : ev (.tmp 5) = .pointer (some ⟨w.heap.size, 0, none⟩) := by rw [← hev]; exact eval_old (by kernel_rfl) 86 rfl (by decide) rfl
        clear hev hd hold
        exact .inl ⟨_, W, load_blk Try.underlying79 (by rw [hcz2]; kernel_rfl) (KC.next hVW) rfl e5, rfl, Below.refl _ _⟩
      · obtain rfl := Option.some.inj hoo
        refine .inl ⟨wanted_none rfl, ?_⟩
        generalize hev : Act.eval _ = ev
        have ec : ∀ c, ev (.const c) = c := fun c => by rw [← hev]; rfl
        have e11 : ev (.tmp 11) = .slice (some ⟨bb, ob, none⟩) Lb.length cb := by rw [← hev]; exact eval_old (by kernel_rfl) 86 rfl (by decide) rfl
        clear hev hd hold
        exact .inl ⟨_, W, by go_simp, rfl, Below.refl _ _⟩
      · obtain rfl := Option.some.inj hoo
        refine .inl ⟨wanted_none rfl, ?_⟩
        generalize hev : Act.eval _ = ev
        have ec : ∀ c, ev (.const c) = c := fun c => by rw [← hev]; rfl
        have e2 : ev (.tmp 2) = .slice a2 len2 cap2 := by rw [← hev]; exact eval_old (by kernel_rfl) 86 rfl (by decide) rfl
        clear hev hd hold
        exact .inl ⟨_, W, by go_simp, rfl, Below.refl _ _⟩
      · obtain rfl := Option.some.inj hoo
        have q2 : uu 2 = .slice a2 len2 cap2 := hd 2 (by kernel_rfl)
        refine .inl ⟨wanted_none rfl, ?_⟩
        generalize hev : Act.eval _ = ev
        have ec : ∀ c, ev (.const c) = c := fun c => by rw [← hev]; rfl
        have ef : ∀ f, ev (.func f) = .func (.func f) #[] #[] := fun f => by rw [← hev]; rfl
        have e35 : ev (.tmp 35) = .slice a2 len2 cap2 := by rw [← hev]; exact (eval_put (by kernel_rfl) 86 rfl (by decide)).trans q2
        clear hev hd hold q2
        exact .inr ⟨_, _, _, by go_simp, (HFb W).out, fun e w' he => ⟨_, he.1, rfl, he.2⟩⟩
      · obtain rfl := Option.some.inj hoo
        have q1 : uu 1 = .slice (some ⟨bb, ob, none⟩) Lb.length cb := hd 1 (by kernel_rfl)
        have q3 : uu 3 = .slice a2 bs.length cap2 := hd 3 (by kernel_rfl)
        refine .inl ⟨wanted_none rfl, ?_⟩
        generalize hev : Act.eval _ = ev
        have ec : ∀ c, ev (.const c) = c := fun c => by rw [← hev]; rfl
        have ef : ∀ f, ev (.func f) = .func (.func f) #[] #[] := fun f => by rw [← hev]; rfl
        have e34 : ev (.tmp 34) = .slice (some ⟨bb, ob, none⟩) Lb.length cb := by rw [← hev]; exact (eval_put (by kernel_rfl) 86 rfl (by decide)).trans q1
        have e36 : ev (.tmp 36) = .slice a2 bs.length cap2 := by rw [← hev]; exact (eval_put (by kernel_rfl) 86 rfl (by decide)).trans q3
        clear hev hd hold q1 q3
        exact .inr ⟨_, _, _, by go_simp, (HADD W (rb.next hVW) (hb.next hVW)).out, fun e w' he => by
          obtain ⟨L, A, c, rfl, HL, hr, hb⟩ := he
          exact ⟨_, rfl, ⟨L, A, c, rfl, HL, hr⟩, hb⟩⟩
      · obtain rfl := Option.some.inj hoo
        refine .inl ⟨wanted_none rfl, ?_⟩
        generalize hev : Act.eval _ = ev
        have ec : ∀ c, ev (.const c) = c := fun c => by rw [← hev]; rfl
        have e3 : ev (.tmp 3) = .int .u32 (to.toNat : Int) := by rw [← hev]; exact eval_old (by kernel_rfl) 86 rfl (by decide) rfl
        clear hev hd hold
        exact .inl ⟨_, W, by go_simp, rfl, Below.refl _ _⟩
      · obtain rfl := Option.some.inj hoo
        refine .inl ⟨wanted_none rfl, ?_⟩
        generalize hev : Act.eval _ = ev
        have ec : ∀ c, ev (.const c) = c := fun c => by rw [← hev]; rfl
        have e4 : ev (.tmp 4) = .int .u16 (nid.toNat : Int) := by rw [← hev]; exact eval_old (by kernel_rfl) 86 rfl (by decide) rfl
        clear hev hd hold
        exact .inl ⟨_, W, by go_simp, rfl, Below.refl _ _⟩
      · obtain rfl := Option.some.inj hoo
        have q0 : uu 0 = .agg cs2 := hd 0 (by kernel_rfl)
        obtain ⟨L4, A4, c4, q4, HL4, r4⟩ := hd 4 (by kernel_rfl)
        have q5 : uu 5 = .int .u32 (to.toNat : Int) := hd 5 (by kernel_rfl)
        have q6 : uu 6 = .int .u16 (nid.toNat : Int) := hd 6 (by kernel_rfl)
        refine .inl ⟨wanted_none rfl, ?_⟩
        generalize hev : Act.eval _ = ev
        have ec : ∀ c, ev (.const c) = c := fun c => by rw [← hev]; rfl
        have ef : ∀ f, ev (.func f) = .func (.func f) #[] #[] := fun f => by rw [← hev]; rfl
        have e33 : ev (.tmp 33) = .agg cs2 := by rw [← hev]; exact (eval_put (by kernel_rfl) 86 rfl (by decide)).trans q0
        have e37 : ev (.tmp 37) = .slice A4 L4.length c4 := by rw [← hev]; exact (eval_put (by kernel_rfl) 86 rfl (by decide)).trans q4
        have e38 : ev (.tmp 38) = .int .u32 (to.toNat : Int) := by rw [← hev]; exact (eval_put (by kernel_rfl) 86 rfl (by decide)).trans q5
        have e39 : ev (.tmp 39) = .int .u16 (nid.toNat : Int) := by rw [← hev]; exact (eval_put (by kernel_rfl) 86 rfl (by decide)).trans q6
        clear hev hd hold q0 q4 q5 q6
        exact .inr ⟨_, _, _, by go_simp, (HWR W A4 c4 L4 HL4 r4).out, fun e w' he => by
          obtain ⟨L, A, c, rfl, HL, hr, hb⟩ := he
          exact ⟨_, rfl, ⟨L, A, c, rfl, HL, hr⟩, hb⟩⟩
      · obtain rfl := Option.some.inj hoo
        obtain ⟨L7, A7, c7, q7, HL7, r7⟩ := hd 7 (by kernel_rfl)
        refine .inl ⟨wanted_none rfl, ?_⟩
        generalize hev : Act.eval _ = ev
        have ec : ∀ c, ev (.const c) = c := fun c => by rw [← hev]; rfl
        have e40 : ev (.tmp 40) = .tuple #[.agg #[.int .u8 (tos.toNat : Int), .int .u16 (nid.toNat : Int), .bool D, .bool false, .int .u16 0, .int .u8 64, .int .u8 4, .int .u32 (b1.toNat : Int), .int .u32 (to.toNat : Int), .slice none 0 0, .slice A7 L7.length c7], .int .i64 0] := by rw [← hev]; exact (eval_put (by kernel_rfl) 86 rfl (by decide)).trans q7
        clear hev hd hold q7
        exact .inl ⟨_, W, by go_simp, ⟨L7, A7, c7, rfl, HL7, r7⟩, Below.refl _ _⟩
      · obtain rfl := Option.some.inj hoo
        obtain ⟨L8, A8, c8, q8, HL8, r8⟩ := hd 8 (by kernel_rfl)
        refine .inl ⟨wanted_none rfl, ?_⟩
        generalize hev : Act.eval _ = ev
        have ec : ∀ c, ev (.const c) = c := fun c => by rw [← hev]; rfl
        have e32 : ev (.tmp 32) = .tuple #[.agg #[.int .u8 (tos.toNat : Int), .int .u16 (nid.toNat : Int), .bool D, .bool false, .int .u16 0, .int .u8 64, .int .u8 4, .int .u32 (b1.toNat : Int), .int .u32 (to.toNat : Int), .slice none 0 0, .slice A8 L8.length c8], .int .i64 0] := by rw [← hev]; exact (eval_put (by kernel_rfl) 86 rfl (by decide)).trans q8
        clear hev hd hold q8
        exact .inl ⟨_, W, by go_simp, ⟨L8, A8, c8, rfl, HL8, r8⟩, Below.refl _ _⟩
      · obtain rfl := Option.some.inj hoo
        obtain ⟨L8, A8, c8, q8, HL8, r8⟩ := hd 8 (by kernel_rfl)
        refine .inl ⟨wanted_none rfl, ?_⟩
        generalize hev : Act.eval _ = ev
        have ec : ∀ c, ev (.const c) = c := fun c => by rw [← hev]; rfl
        have e32 : ev (.tmp 32) = .tuple #[.agg #[.int .u8 (tos.toNat : Int), .int .u16 (nid.toNat : Int), .bool D, .bool false, .int .u16 0, .int .u8 64, .int .u8 4, .int .u32 (b1.toNat : Int), .int .u32 (to.toNat : Int), .slice none 0 0, .slice A8 L8.length c8], .int .i64 0] := by rw [← hev]; exact (eval_put (by kernel_rfl) 86 rfl (by decide)).trans q8
        clear hev hd hold q8
        exact .inl ⟨_, W, by go_simp, rfl, Below.refl _ _⟩
      · obtain rfl := Option.some.inj hoo
        refine .inl ⟨wanted_none rfl, ?_⟩
        generalize hev : Act.eval _ = ev
        have ec : ∀ c, ev (.const c) = c := fun c => by rw [← hev]; rfl
        clear hev hd hold
        exact .inl ⟨_, W.alloc (.cells #[.int .u8 0, .int .u16 0, .bool false, .bool false, .int .u16 0, .int .u8 0, .int .u8 0, .int .u32 0, .int .u32 0, .slice none 0 0, .slice none 0 0] 38), by go_simp, ⟨W.heap.size, rfl, hVW.size, Blk.new W #[.int .u8 0, .int .u16 0, .bool false, .bool false, .int .u16 0, .int .u8 0, .int .u8 0, .int .u32 0, .int .u32 0, .slice none 0 0, .slice none 0 0] 38⟩, bnextA (Below.refl _ _) _⟩
      · omega
    · intro i v W W' hi h
      simp only [beq_iff_eq] at hi
      rcases hi with rfl
      all_goals exact h
    · intro i oo uu W hi hoo hd
      simp only [beq_iff_eq] at hi
      rcases hi with rfl
      · obtain rfl := Option.some.inj hoo
        obtain ⟨-, L8, A8, c8, q8, -⟩ := hd 8 (by kernel_rfl)
        refine ⟨wanted_none rfl, ?_⟩
        generalize hev : Act.eval _ = ev
        have e32 : ev (.tmp 32) = .tuple #[.agg #[.int .u8 (tos.toNat : Int), .int .u16 (nid.toNat : Int), .bool D, .bool false, .int .u16 0, .int .u8 64, .int .u8 4, .int .u32 (b1.toNat : Int), .int .u32 (to.toNat : Int), .slice none 0 0, .slice A8 L8.length c8], .int .i64 0] := by rw [← hev]; exact (eval_put (by kernel_rfl) 86 rfl (by decide)).trans q8
        clear hev
        exact ⟨_, by go_simp, rfl⟩
    · intro k i uu v W hi h
      simp only [beq_iff_eq] at hi
      rcases hi with rfl
      all_goals (rcases k with _|_|_|k <;> exact h)
    · intro uu W hVW hall0
      have h9 : ∃ L A c, uu 9 = .agg #[.int .u8 (tos.toNat : Int), .int .u16 (nid.toNat : Int), .bool D, .bool false, .int .u16 0, .int .u8 64, .int .u8 4, .int .u32 (b1.toNat : Int), .int .u32 (to.toNat : Int), .slice none 0 0, .slice A L.length c] ∧ Hid (L = Lb) ∧ Rd bv W W.heap.size A c L := hall0 9 (by decide) rfl
      have h11 : ∃ g, uu 11 = .pointer (some ⟨g, 0, none⟩) ∧ V.heap.size ≤ g ∧ Blk W g [.int .u8 0, .int .u16 0, .bool false, .bool false, .int .u16 0, .int .u8 0, .int .u8 0, .int .u32 0, .int .u32 0, .slice none 0 0, .slice none 0 0] 38 := hall0 11 (by decide) rfl
      obtain ⟨L9, A9, c9, q9, HL9, r9⟩ := h9
      obtain ⟨g11, q11, hle11, hbk11⟩ := h11
      exact ⟨L9, A9, c9, g11, q9, q11, HL9, hle11, r9, hbk11, hVW⟩
    · intro q oo uu W hq hoo hS hdl
      rcases q with _|_|q
      · obtain rfl := Option.some.inj hoo
        have hS : ∃ L9 A9 c9 g11, uu 9 = .agg #[.int .u8 (tos.toNat : Int), .int .u16 (nid.toNat : Int), .bool D, .bool false, .int .u16 0, .int .u8 64, .int .u8 4, .int .u32 (b1.toNat : Int), .int .u32 (to.toNat : Int), .slice none 0 0, .slice A9 L9.length c9] ∧ uu 11 = .pointer (some ⟨g11, 0, none⟩) ∧ Hid (L9 = Lb) ∧ V.heap.size ≤ g11 ∧ Rd bv W W.heap.size A9 c9 L9 ∧ Blk W g11 [.int .u8 0, .int .u16 0, .bool false, .bool false, .int .u16 0, .int .u8 0, .int .u8 0, .int .u32 0, .int .u32 0, .slice none 0 0, .slice none 0 0] 38 ∧ Below V.heap.size V W := hS
        obtain ⟨L9, A9, c9, g11, q9, q11, HL9, hle11, r9, hbk11, hBW⟩ := hS
        refine ⟨wanted_none rfl, ?_⟩
        generalize hev : Act.eval _ = ev
        have ec : ∀ c, ev (.const c) = c := fun c => by rw [← hev]; rfl
        have e13 : ev (.tmp 13) = .pointer (some ⟨g11, 0, none⟩) := by rw [← hev]; exact (eval_put (by kernel_rfl) 86 rfl (by decide)).trans q11
        have e41 : ev (.tmp 41) = .agg #[.int .u8 (tos.toNat : Int), .int .u16 (nid.toNat : Int), .bool D, .bool false, .int .u16 0, .int .u8 64, .int .u8 4, .int .u32 (b1.toNat : Int), .int .u32 (to.toNat : Int), .slice none 0 0, .slice A9 L9.length c9] := by rw [← hev]; exact (eval_put (by kernel_rfl) 86 rfl (by decide)).trans q9
        clear hev hdl
        obtain ⟨b9, off9, rfl, -, hc9⟩ := byt_at r9 (k := 0) (by have := HLB.out; rw [HL9.out]; omega)
        have hneb : b9 ≠ g11 := by
          rintro rfl
          have h1 := hc9 11 (by have := HLB.out; rw [HL9.out]; omega)
          rw [hbk11.cell, List.getElem?_eq_none (by simp)] at h1
          cases h1
        clear hc9
        obtain ⟨m0, m1, m2, m3, m4, m5, m6, m7, m8, m9, m10, k0, k1, k2, k3, k4, k5, k6, k7, k8, k9, k10⟩ := hbk11.get11
        refine .inl ⟨_, by (go_simp <;> rfl), rfl, ?_⟩
        exact ⟨L9, b9, off9, c9, g11, q11, HL9, hle11, by simpa using (((((((((((r9.othr hneb 0 (.int .u8 (tos.toNat : Int))).othr hneb 1 (.int .u16 (nid.toNat : Int))).othr hneb 2 (.bool D)).othr hneb 3 (.bool false)).othr hneb 4 (.int .u16 0)).othr hneb 5 (.int .u8 64)).othr hneb 6 (.int .u8 4)).othr hneb 7 (.int .u32 (b1.toNat : Int))).othr hneb 8 (.int .u32 (to.toNat : Int))).othr hneb 9 (.slice none 0 0)).othr hneb 10 (.slice (some ⟨b9, off9, none⟩) L9.length c9)), hbk11.set11 (u0 := .int .u8 (tos.toNat : Int)) (u1 := .int .u16 (nid.toNat : Int)) (u2 := .bool D) (u3 := .bool false) (u4 := .int .u16 0) (u5 := .int .u8 64) (u6 := .int .u8 4) (u7 := .int .u32 (b1.toNat : Int)) (u8 := .int .u32 (to.toNat : Int)) (u9 := .slice none 0 0) (u10 := .slice (some ⟨b9, off9, none⟩) L9.length c9), bset11 hBW hle11 (.int .u8 (tos.toNat : Int)) (.int .u16 (nid.toNat : Int)) (.bool D) (.bool false) (.int .u16 0) (.int .u8 64) (.int .u8 4) (.int .u32 (b1.toNat : Int)) (.int .u32 (to.toNat : Int)) (.slice none 0 0) (.slice (some ⟨b9, off9, none⟩) L9.length c9)⟩
      · obtain rfl := Option.some.inj hoo
        have hS : ∃ L9 b9 off9 c9 g11, uu 11 = .pointer (some ⟨g11, 0, none⟩) ∧ Hid (L9 = Lb) ∧ V.heap.size ≤ g11 ∧ Rd bv W W.heap.size (some ⟨b9, off9, none⟩) c9 L9 ∧ Blk W g11 [.int .u8 (tos.toNat : Int), .int .u16 (nid.toNat : Int), .bool D, .bool false, .int .u16 0, .int .u8 64, .int .u8 4, .int .u32 (b1.toNat : Int), .int .u32 (to.toNat : Int), .slice none 0 0, .slice (some ⟨b9, off9, none⟩) L9.length c9] 38 ∧ Below V.heap.size V W := hS
        obtain ⟨L9, b9, off9, c9, g11, q11, HL9, hle11, r9, hbk11, hBW⟩ := hS
        refine ⟨wanted_none rfl, ?_⟩
        generalize hev : Act.eval _ = ev
        have ec : ∀ c, ev (.const c) = c := fun c => by rw [← hev]; rfl
        have q10 : uu 10 = .int .i64 0 := hdl 10 (by kernel_rfl) (by decide)
        have e42 : ev (.tmp 42) = .int .i64 0 := by rw [← hev]; exact (eval_put (by kernel_rfl) 86 rfl (by decide)).trans q10
        clear hev hdl
        refine .inr ⟨_, _, by (go_simp; exact ⟨rfl, rfl⟩), ?_⟩
        exact ⟨L9, b9, off9, c9, g11, rfl, q11, HL9, hle11, r9, hbk11, hBW⟩
      · omega
    · intro uu W hS hlast
      have hS : ∃ L9 b9 off9 c9 g11, uu 13 = .int .i64 0 ∧ uu 11 = .pointer (some ⟨g11, 0, none⟩) ∧ Hid (L9 = Lb) ∧ V.heap.size ≤ g11 ∧ Rd bv W W.heap.size (some ⟨b9, off9, none⟩) c9 L9 ∧ Blk W g11 [.int .u8 (tos.toNat : Int), .int .u16 (nid.toNat : Int), .bool D, .bool false, .int .u16 0, .int .u8 64, .int .u8 4, .int .u32 (b1.toNat : Int), .int .u32 (to.toNat : Int), .slice none 0 0, .slice (some ⟨b9, off9, none⟩) L9.length c9] 38 ∧ Below V.heap.size V W := hS
      obtain ⟨L9, b9, off9, c9, g11, q13, q11, HL9, hle11, r9, hbk11, hBW⟩ := hS
      replace hB := hB.trans (hBW.mono hB.size)
      replace rb := rb.next hBW
      clear HWR HADD HFb KC hBW hb hle11
      simp only [putAll, Act.put, Nat.reduceAdd, q11, q13]
      simp only [List.setIfInBounds_toArray, List.set_cons_succ, List.set_cons_zero]
      clear q11 q13
      obtain ⟨p0, p1, p2, p3, p4, p5, p6, p7, p8, p9, p10, -⟩ := hbk11.get11
      generalize W = V3 at *
      go_wp2_with fail
      refine (HPX _ _ _ _ HL9 r9).out.mono ?_
      rintro e w3 ⟨L3, A3, c3, rfl, HL3, r3, hbel⟩
      replace hB := bnext hB hbel
      replace rb := rb.next hbel
      clear hbel HPX r9 hbk11 p0 p1 p2 p3 p4 p5 p6 p7 p8 p9 p10
      go_wp2_with fail
      refine (HRX _ _ _ _ HL3 r3).out.mono ?_
      rintro e w4 ⟨Lo, Ao, co, Lx, Ax, cx, rfl, HLx, rx, hbel⟩
      replace hB := bnext hB hbel
      replace rb := rb.next hbel
      have hKy := Blk.new w4 #[.int .u8 (tos.toNat : Int), .int .u16 (nid.toNat : Int), .bool D, .bool false, .int .u16 0, .int .u8 64, .int .u8 4, .int .u32 (b1.toNat : Int), .int .u32 (to.toNat : Int), .slice Ao Lo.length co, .slice Ax Lx.length cx] 38
      replace hB := bnextA hB (.cells #[.int .u8 (tos.toNat : Int), .int .u16 (nid.toNat : Int), .bool D, .bool false, .int .u16 0, .int .u8 64, .int .u8 4, .int .u32 (b1.toNat : Int), .int .u32 (to.toNat : Int), .slice Ao Lo.length co, .slice Ax Lx.length cx] 38)
      replace rb := rb.nextA (.cells #[.int .u8 (tos.toNat : Int), .int .u16 (nid.toNat : Int), .bool D, .bool false, .int .u16 0, .int .u8 64, .int .u8 4, .int .u32 (b1.toNat : Int), .int .u32 (to.toNat : Int), .slice Ao Lo.length co, .slice Ax Lx.length cx] 38)
      replace rx := rx.nextA (.cells #[.int .u8 (tos.toNat : Int), .int .u16 (nid.toNat : Int), .bool D, .bool false, .int .u16 0, .int .u8 64, .int .u8 4, .int .u32 (b1.toNat : Int), .int .u32 (to.toNat : Int), .slice Ao Lo.length co, .slice Ax Lx.length cx] 38)
      clear hbel HRX r3
      obtain ⟨p0, p1, p2, p3, p4, p5, p6, p7, p8, p9, p10, -⟩ := hKy.get11
      go_wp2_with fail
      refine (HOX _ _ _ _ _ _ _ HLx rx).out.mono ?_
      rintro e w5 ⟨L5, A5, c5, rfl, HL5, r5, hbel⟩
      replace hB := bnext hB hbel
      replace rb := rb.next hbel
      clear hbel HOX rx p0 p1 p2 p3 p4 p5 p6 p7 p8 p9 p10 hKy
      have wl := HLEN L3 HL3
      go_wp2_with fail
      refine (rsame_eq _ _ _ _ L5 Lb _ _ r5 rb HL5.out).mono ?_
      rintro e w6 ⟨rfl, hd⟩
      replace hB := bnext hB hd.bel
      clear hd r5 rb
      go_wp2_with fail
      refine (lives29_any _).mono ?_
      rintro e wl ⟨rfl, hbel⟩
      replace hB := bnext hB hbel
      go_wp2_with fail
      go_ret
      exact ⟨rfl, hB⟩
  · have HPB : ∀ W, Hid (Calls Try.prog 40 #[.agg #[.int .u8 (tos.toNat : Int), .int .u16 (id.toNat : Int), .bool D, .bool M, .int .u16 (fo.toNat : Int), .int .u8 (ttl.toNat : Int), .int .u8 (pr.toNat : Int), .int .u32 (s.toNat : Int), .int .u32 (d.toNat : Int), .slice a8 os.length cap8, .slice a9 xs.length cap9]] W fun e w' => e = .returned (.tuple #[.slice none 0 0, .int .i64 2]) ∧ Below W.heap.size W w') := by
      intro W
      by_cases h1 : os.length ≤ 40
      · by_cases h2 : os.length % 4 = 0
        · exact Lib.hid (rpput_bad2 tos id D M fo ttl pr s d a8 a9 os.length cap8 xs.length cap9 (by omega) (by omega) W h1 h2 (by omega))
        · exact Lib.hid (rpput_bad1 tos id D M fo ttl pr s d a8 a9 os.length cap8 xs.length cap9 (by omega) (by omega) W h1 h2)
      · exact Lib.hid (rpput_bad0 tos id D M fo ttl pr s d a8 a9 os.length cap8 xs.length cap9 (by omega) (by omega) W (by omega))
    clear hok hol hxl hbl
    go_enter Try.func8, Try.ntmps8
    go_wp2_with fail
    refine (HF _).out.mono ?_
    rintro e w_1 ⟨rfl, hbel⟩
    have hB := bnext (bnextA (bnextA (Below.refl w.heap.size w) (.cells cs 79)) (.cells #[.int .u8 (tos.toNat : Int), .int .u16 (id.toNat : Int), .bool D, .bool M, .int .u16 (fo.toNat : Int), .int .u8 (ttl.toNat : Int), .int .u8 (pr.toNat : Int), .int .u32 (s.toNat : Int), .int .u32 (d.toNat : Int), .slice a8 len8 cap8, .slice a9 len9 cap9] 38)) hbel
    have KC := ((Blk.new w cs 79).alloc (.cells #[.int .u8 (tos.toNat : Int), .int .u16 (id.toNat : Int), .bool D, .bool M, .int .u16 (fo.toNat : Int), .int .u8 (ttl.toNat : Int), .int .u8 (pr.toNat : Int), .int .u32 (s.toNat : Int), .int .u32 (d.toNat : Int), .slice a8 len8 cap8, .slice a9 len9 cap9] 38)).next hbel
    have hK : Blk w_1 (w.heap.size + 1) [.int .u8 (tos.toNat : Int), .int .u16 (id.toNat : Int), .bool D, .bool M, .int .u16 (fo.toNat : Int), .int .u8 (ttl.toNat : Int), .int .u8 (pr.toNat : Int), .int .u32 (s.toNat : Int), .int .u32 (d.toNat : Int), .slice a8 len8 cap8, .slice a9 len9 cap9] 38 := by
      have := (Blk.new (w.alloc (.cells cs 79)) #[.int .u8 (tos.toNat : Int), .int .u16 (id.toNat : Int), .bool D, .bool M, .int .u16 (fo.toNat : Int), .int .u8 (ttl.toNat : Int), .int .u8 (pr.toNat : Int), .int .u32 (s.toNat : Int), .int .u32 (d.toNat : Int), .slice a8 len8 cap8, .slice a9 len9 cap9] 38).next hbel
      simpa using this
    obtain ⟨p0, p1, p2, p3, p4, p5, p6, p7, p8, p9, p10, g0, g1, g2, g3, g4, g5, g6, g7, g8, g9, g10⟩ := hK.get11
    clear hbel HF
    go_wp2_with fail
    have hBV := bset11 hB (Nat.le_succ _) (.int .u8 (tos.toNat : Int)) (.int .u16 (id.toNat : Int)) (.bool D) (.bool M) (.int .u16 (fo.toNat : Int)) (.int .u8 (ttl.toNat : Int)) (.int .u8 (pr.toNat : Int)) (.int .u32 (s.toNat : Int)) (.int .u32 (d.toNat : Int)) (.slice a8 os.length cap8) (.slice a9 xs.length cap9)
    have hKV := hK.set11 (u0 := .int .u8 (tos.toNat : Int)) (u1 := .int .u16 (id.toNat : Int)) (u2 := .bool D) (u3 := .bool M) (u4 := .int .u16 (fo.toNat : Int)) (u5 := .int .u8 (ttl.toNat : Int)) (u6 := .int .u8 (pr.toNat : Int)) (u7 := .int .u32 (s.toNat : Int)) (u8 := .int .u32 (d.toNat : Int)) (u9 := .slice a8 os.length cap8) (u10 := .slice a9 xs.length cap9)
    have KCV := KC.oth11 (g' := w.heap.size + 1) (by omega) (u0 := .int .u8 (tos.toNat : Int)) (u1 := .int .u16 (id.toNat : Int)) (u2 := .bool D) (u3 := .bool M) (u4 := .int .u16 (fo.toNat : Int)) (u5 := .int .u8 (ttl.toNat : Int)) (u6 := .int .u8 (pr.toNat : Int)) (u7 := .int .u32 (s.toNat : Int)) (u8 := .int .u32 (d.toNat : Int)) (u9 := .slice a8 os.length cap8) (u10 := .slice a9 xs.length cap9)
    simp only [setAll11] at hBV hKV KCV
    clear p0 p1 p2 p3 p4 p5 p6 p7 p8 p9 p10 g0 g1 g2 g3 g4 g5 g6 g7 g8 g9 g10 hB hK KC
    generalize (((((((((((w_1.setCell ⟨w.heap.size + 1, 0, none⟩ (.int .u8 (tos.toNat : Int))).setCell ⟨w.heap.size + 1, 1, none⟩ (.int .u16 (id.toNat : Int))).setCell ⟨w.heap.size + 1, 2, none⟩ (.bool D)).setCell ⟨w.heap.size + 1, 3, none⟩ (.bool M)).setCell ⟨w.heap.size + 1, 4, none⟩ (.int .u16 (fo.toNat : Int))).setCell ⟨w.heap.size + 1, 5, none⟩ (.int .u8 (ttl.toNat : Int))).setCell ⟨w.heap.size + 1, 6, none⟩ (.int .u8 (pr.toNat : Int))).setCell ⟨w.heap.size + 1, 7, none⟩ (.int .u32 (s.toNat : Int))).setCell ⟨w.heap.size + 1, 8, none⟩ (.int .u32 (d.toNat : Int))).setCell ⟨w.heap.size + 1, 9, none⟩ (.slice a8 os.length cap8)).setCell ⟨w.heap.size + 1, 10, none⟩ (.slice a9 xs.length cap9)) = V at hBV hKV KCV ⊢
    have ho := ho0.next hBV
    have hx := hx0.next hBV
    have hB := hBV
    have hK := hKV
    have KC := KCV
    clear hBV hKV KCV ho0 hx0
    obtain ⟨p0, p1, p2, p3, p4, p5, p6, p7, p8, p9, p10, -⟩ := hK.get11
    refine (HPB _).out.mono ?_
    rintro e w_2 ⟨rfl, hbel⟩
    replace hB := bnext hB hbel
    clear hbel HPB ho hx p0 p1 p2 p3 p4 p5 p6 p7 p8 p9 p10 hK KC
    go_wp2_with fail
    refine (lives29_any _).mono ?_
    rintro e wl ⟨rfl, hbel⟩
    replace hB := bnext hB hbel
    go_wp2_with fail
    go_ret
    exact ⟨rfl, hB⟩

theorem TunBack_walk (a0_0_0_0 : Int) (a0_0_0_1 : Int) (a0_0_0_2 : Int) (a0_0_0_3 : Int) (a0_0_0_4 : Int) (a0_0_0_5 : Int) (a0_0_1_0 : Int) (a0_0_1_1 : Int) (a0_0_1_2 : Int) (a0_0_1_3 : Int) (a0_0_1_4 : Int) (a0_0_1_5 : Int) (a0_1_0 : Int) (a0_1_1 : Int) (a0_2_0 : Int) (a0_2_1 : Int) (a0_3 : Int) (a0_4 : Int) (a0_5_0 : Int) (a0_5_1 : Int) (a0_6_0 : Int) (a0_6_1 : Int) (a0_7 : Int) (a0_8 : Int) (a0_9 : Int) (a0_10 : Int) (a0_11 : Int) (a0_12 : Int) (a0_13 : Int) (a0_14 : Int) (a0_15 : Int) (a0_16 : Int) (a0_17 : Int) (a0_18 : Int) (a0_19 : Int) (a0_20 : Int) (a0_21 : Int) (a0_22 : Int) (a0_23 : Int) (a0_24 : Int) (a1_0 : Int) (a1_1 : Int) (a1_2 : Bool) (a1_3 : Bool) (a1_4 : Int) (a1_5 : Int) (a1_6 : Int) (a1_7 : Int) (a1_8 : Int) (a1_9 : Option Addr) (len1_9 cap1_9 : Nat) (z1_9 : List Int) (a1_10 : Option Addr) (len1_10 cap1_10 : Nat) (z1_10 : List Int) (a2 : Option Addr) (len2 cap2 : Nat) (z2 : List Int) (a3 : Int) (a4 : Int) (w : World) (_w0_0_0_0 : (Lit.int .u8 a0_0_0_0).wf = true) (_w0_0_0_1 : (Lit.int .u8 a0_0_0_1).wf = true) (_w0_0_0_2 : (Lit.int .u8 a0_0_0_2).wf = true) (_w0_0_0_3 : (Lit.int .u8 a0_0_0_3).wf = true) (_w0_0_0_4 : (Lit.int .u8 a0_0_0_4).wf = true) (_w0_0_0_5 : (Lit.int .u8 a0_0_0_5).wf = true) (_w0_0_1_0 : (Lit.int .u8 a0_0_1_0).wf = true) (_w0_0_1_1 : (Lit.int .u8 a0_0_1_1).wf = true) (_w0_0_1_2 : (Lit.int .u8 a0_0_1_2).wf = true) (_w0_0_1_3 : (Lit.int .u8 a0_0_1_3).wf = true) (_w0_0_1_4 : (Lit.int .u8 a0_0_1_4).wf = true) (_w0_0_1_5 : (Lit.int .u8 a0_0_1_5).wf = true) (_w0_1_0 : (Lit.int .u32 a0_1_0).wf = true) (w0_1_1 : (Lit.int .u32 a0_1_1).wf = true) (_w0_2_0 : (Lit.int .i64 a0_2_0).wf = true) (_w0_2_1 : (Lit.int .i64 a0_2_1).wf = true) (_w0_3 : (Lit.int .u32 a0_3).wf = true) (_w0_4 : (Lit.int .i64 a0_4).wf = true) (_w0_5_0 : (Lit.int .u64 a0_5_0).wf = true) (_w0_5_1 : (Lit.int .u64 a0_5_1).wf = true) (_w0_6_0 : (Lit.int .u64 a0_6_0).wf = true) (_w0_6_1 : (Lit.int .u64 a0_6_1).wf = true) (_w0_7 : (Lit.int .u16 a0_7).wf = true) (_w0_8 : (Lit.int .i64 a0_8).wf = true) (_w0_9 : (Lit.int .i64 a0_9).wf = true) (_w0_10 : (Lit.int .i64 a0_10).wf = true) (_w0_11 : (Lit.int .i64 a0_11).wf = true) (_w0_12 : (Lit.int .i64 a0_12).wf = true) (_w0_13 : (Lit.int .i64 a0_13).wf = true) (_w0_14 : (Lit.int .i64 a0_14).wf = true) (_w0_15 : (Lit.int .i64 a0_15).wf = true) (_w0_16 : (Lit.int .i64 a0_16).wf = true) (_w0_17 : (Lit.int .i64 a0_17).wf = true) (_w0_18 : (Lit.int .i64 a0_18).wf = true) (_w0_19 : (Lit.int .i64 a0_19).wf = true) (_w0_20 : (Lit.int .i64 a0_20).wf = true) (_w0_21 : (Lit.int .i64 a0_21).wf = true) (_w0_22 : (Lit.int .i64 a0_22).wf = true) (_w0_23 : (Lit.int .i64 a0_23).wf = true) (_w0_24 : (Lit.int .i64 a0_24).wf = true) (w1_0 : (Lit.int .u8 a1_0).wf = true) (w1_1 : (Lit.int .u16 a1_1).wf = true) (w1_4 : (Lit.int .u16 a1_4).wf = true) (w1_5 : (Lit.int .u8 a1_5).wf = true) (w1_6 : (Lit.int .u8 a1_6).wf = true) (w1_7 : (Lit.int .u32 a1_7).wf = true) (w1_8 : (Lit.int .u32 a1_8).wf = true) (w1_9 : InRow .u8 w a1_9 len1_9 cap1_9 z1_9) (w1_10 : InRow .u8 w a1_10 len1_10 cap1_10 z1_10) (w2 : InRow .u8 w a2 len2 cap2 z2) (w3 : (Lit.int .u32 a3).wf = true) (w4 : (Lit.int .u16 a4).wf = true) :
    Calls Try.prog 8 #[.agg #[.int .u8 a0_0_0_0, .int .u8 a0_0_0_1, .int .u8 a0_0_0_2, .int .u8 a0_0_0_3, .int .u8 a0_0_0_4, .int .u8 a0_0_0_5, .int .u8 a0_0_1_0, .int .u8 a0_0_1_1, .int .u8 a0_0_1_2, .int .u8 a0_0_1_3, .int .u8 a0_0_1_4, .int .u8 a0_0_1_5, .int .u32 a0_1_0, .int .u32 a0_1_1, .int .i64 a0_2_0, .int .i64 a0_2_1, .int .u32 a0_3, .int .i64 a0_4, .int .u64 a0_5_0, .int .u64 a0_5_1, .int .u64 a0_6_0, .int .u64 a0_6_1, .int .u16 a0_7, .int .i64 a0_8, .int .i64 a0_9, .int .i64 a0_10, .int .i64 a0_11, .int .i64 a0_12, .int .i64 a0_13, .int .i64 a0_14, .int .i64 a0_15, .int .i64 a0_16, .int .i64 a0_17, .int .i64 a0_18, .int .i64 a0_19, .int .i64 a0_20, .int .i64 a0_21, .int .i64 a0_22, .int .i64 a0_23, .int .i64 a0_24], .agg #[.int .u8 a1_0, .int .u16 a1_1, .bool a1_2, .bool a1_3, .int .u16 a1_4, .int .u8 a1_5, .int .u8 a1_6, .int .u32 a1_7, .int .u32 a1_8, .slice a1_9 len1_9 cap1_9, .slice a1_10 len1_10 cap1_10], .slice a2 len2 cap2, .int .u32 a3, .int .u16 a4] w fun e w' => e = .returned (.bool true) ∧ Below w.heap.size w w' := by
  obtain ⟨tos, rfl⟩ := u8_of w1_0
  obtain ⟨id, rfl⟩ := u16_of w1_1
  obtain ⟨fo, rfl⟩ := u16_of w1_4
  obtain ⟨ttl, rfl⟩ := u8_of w1_5
  obtain ⟨pr, rfl⟩ := u8_of w1_6
  obtain ⟨s, rfl⟩ := u32_of w1_7
  obtain ⟨d, rfl⟩ := u32_of w1_8
  obtain ⟨to, rfl⟩ := u32_of w3
  obtain ⟨nid, rfl⟩ := u16_of w4
  obtain ⟨os, hol, ho0, hlc, hcc, hm⟩ := few_len w1_9 50
  obtain ⟨xs, hxl, hx0, hlc2, hcc2, hm2⟩ := few_len w1_10 300
  obtain ⟨bs, hbl, hb0, hlz, hcz0, hmz⟩ := few_len w2 30
  have HFb : ∀ W, Hid (Calls Try.prog 32 #[.slice a2 len2 cap2, .int .i64 30] W fun e w' => e = .returned (.slice a2 bs.length cap2) ∧ Below W.heap.size W w') := by
    intro W
    have := few_le a2 len2 cap2 30 W hlz hcz0 (by omega)
    rw [hmz.out] at this
    exact this.mono fun e w' h => ⟨h.1, h.2 ▸ Below.refl _ _⟩
  have HF := fun W => Lib.hid (pfew_any tos id a1_2 a1_3 fo ttl pr s d a1_9 a1_10 len1_9 cap1_9 len1_10 cap1_10 os.length xs.length W hlc hcc hlc2 hcc2 hm hm2)
  obtain ⟨b1, rfl⟩ := u32_of w0_1_1
  obtain ⟨cs, hcv⟩ : ∃ cs : Array Value, cs = #[.int .u8 a0_0_0_0, .int .u8 a0_0_0_1, .int .u8 a0_0_0_2, .int .u8 a0_0_0_3, .int .u8 a0_0_0_4, .int .u8 a0_0_0_5, .int .u8 a0_0_1_0, .int .u8 a0_0_1_1, .int .u8 a0_0_1_2, .int .u8 a0_0_1_3, .int .u8 a0_0_1_4, .int .u8 a0_0_1_5, .int .u32 a0_1_0, .int .u32 (b1.toNat : Int), .int .i64 a0_2_0, .int .i64 a0_2_1, .int .u32 a0_3, .int .i64 a0_4, .int .u64 a0_5_0, .int .u64 a0_5_1, .int .u64 a0_6_0, .int .u64 a0_6_1, .int .u16 a0_7, .int .i64 a0_8, .int .i64 a0_9, .int .i64 a0_10, .int .i64 a0_11, .int .i64 a0_12, .int .i64 a0_13, .int .i64 a0_14, .int .i64 a0_15, .int .i64 a0_16, .int .i64 a0_17, .int .i64 a0_18, .int .i64 a0_19, .int .i64 a0_20, .int .i64 a0_21, .int .i64 a0_22, .int .i64 a0_23, .int .i64 a0_24] := ⟨_, rfl⟩
  have hcz : cs.size = 40 := by rw [hcv]; rfl
  have h13 : cs.toList[13]? = some (.int .u32 (b1.toNat : Int)) := by rw [hcv]; rfl
  have h17 : cs.toList[17]? = some (.int .i64 a0_4) := by rw [hcv]; rfl
  have h20 : cs.toList[20]? = some (.int .u64 a0_6_0) := by rw [hcv]; rfl
  rw [← hcv]
  clear hcv
  exact tun_back cs hcz b1 h13 a0_4 h17 _ h20 tos id a1_2 a1_3 fo ttl pr s d a1_9 a1_10 a2 len1_9 cap1_9 len1_10 cap1_10 len2 cap2 os xs bs to nid w hol hxl hbl ho0 hx0 hb0 HF HFb
end Go.Proofs.Ytkoamiefombilaa
