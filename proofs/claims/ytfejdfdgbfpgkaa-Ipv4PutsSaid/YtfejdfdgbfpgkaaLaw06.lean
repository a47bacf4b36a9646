/- The walks of the statements on package ipv4: what is read. -/
import Derived.Test.YtfejdfdgbfpgkaaIp5
import Derived.Test.YtfejdfdgbfpgkaaIp6
namespace Go.Proofs.Ytfejdfdgbfpgkaa
open Go.RowKit

set_option maxHeartbeats 2000000 in
theorem lives06_any (w : World) : Calls Try.prog 19 #[] w fun e w' => e = .returned (.bool true) ∧ Below w.heap.size w w' := by
  obtain ⟨tos, e0⟩ : ∃ a : UInt8, (a.toNat : Int) = 0 := ⟨0, rfl⟩
  obtain ⟨id, e1⟩ : ∃ a : UInt16, (a.toNat : Int) = 0 := ⟨0, rfl⟩
  obtain ⟨fo, e4⟩ : ∃ a : UInt16, (a.toNat : Int) = 0 := ⟨0, rfl⟩
  obtain ⟨ttl, e5⟩ : ∃ a : UInt8, (a.toNat : Int) = 9 := ⟨9, rfl⟩
  obtain ⟨pr, e6⟩ : ∃ a : UInt8, (a.toNat : Int) = 17 := ⟨17, rfl⟩
  obtain ⟨s, e7⟩ : ∃ a : UInt32, (a.toNat : Int) = 1 := ⟨1, rfl⟩
  obtain ⟨d, e8⟩ : ∃ a : UInt32, (a.toNat : Int) = 2 := ⟨2, rfl⟩
  obtain ⟨h8, eh⟩ : ∃ a : UInt8, a.toNat = 69 := ⟨69, rfl⟩
  obtain ⟨os, ho⟩ : ∃ l : List UInt8, l.length = 0 := ⟨[], rfl⟩
  obtain ⟨xs, hxs⟩ : ∃ l : List UInt8, l = [7] := ⟨_, rfl⟩
  have hx : xs.length = 1 := by rw [hxs]; rfl
  obtain ⟨N, hN⟩ : ∃ N, onesN (ih h8 tos (20 + os.length + xs.length) id (wdN false false fo) ttl pr 0 s d os) = N := ⟨_, rfl⟩
  have H2 : ∀ A2 c2 W (_ : Rd bv W W.heap.size A2 c2 xs), Hid (Calls Try.prog 21 #[.agg #[.int .u8 0, .int .u16 0, .bool false, .bool false, .int .u16 0, .int .u8 9, .int .u8 17, .int .u32 1, .int .u32 2, .slice none 0 0, .slice A2 1 c2]] W fun e w' => ∃ L A c, e = .returned (.tuple #[.slice A L.length c, .int .i64 0]) ∧ Hid (L = ih h8 tos (20 + os.length + xs.length) id (wdN false false fo) ttl pr (65535 - N) s d os ++ xs) ∧ Rd bv w' w'.heap.size A c L ∧ Below W.heap.size W w') := by
    intro A2 c2 W g
    have h := pput_ok tos id false false fo ttl pr s d none A2 0 c2 os xs W (by rw [List.eq_nil_of_length_eq_zero ho]; exact Rd.nil0 _ _ _) g (by omega) (by omega) (by omega) (by omega) h8 (by omega) N hN
    simp only [e0, e1, e4, e5, e6, e7, e8] at h
    rw [ho, hx] at h
    rw [ho, hx]
    exact h
  have H3 : ∀ (P : List UInt8) (_ : P = ih h8 tos (20 + os.length + xs.length) id (wdN false false fo) ttl pr (65535 - N) s d os ++ xs) A c W (_ : Rd bv W W.heap.size A c P), Hid (Calls Try.prog 16 #[.slice A P.length c] W fun e w' => ∃ Lo Ao co Lx Ax cx, e = .returned (.tuple #[.agg #[.int .u8 0, .int .u16 0, .bool false, .bool false, .int .u16 0, .int .u8 9, .int .u8 17, .int .u32 1, .int .u32 2, .slice Ao Lo.length co, .slice Ax Lx.length cx], .int .i64 0]) ∧ Hid (Lo = os) ∧ Hid (Lx = xs) ∧ Rd bv w' w'.heap.size Ao co Lo ∧ Rd bv w' w'.heap.size Ax cx Lx ∧ Below W.heap.size W w') := by
    intro P hP A c W g
    have h := pparse_put tos id false false fo ttl pr s d os xs [] P h8 N (by omega) (by omega) (by omega) (by omega) (by simp) (by omega) hN (by rw [hP, List.append_nil]) A c W g
    simp only [e0, e1, e4, e5, e6, e7, e8] at h
    exact h
  have HLT : ∀ L : List UInt8, L = ih h8 tos (20 + os.length + xs.length) id (wdN false false fo) ttl pr (65535 - N) s d os ++ xs → L.length = 21 := fun L h => by rw [h, List.length_append, ih_len, ho, hx]
  have HL0 : ∀ L : List UInt8, L = ih h8 tos (20 + os.length + xs.length) id (wdN false false fo) ttl pr (65535 - N) s d os ++ xs → ∃ h : 0 < L.length, (L[0].toNat : Int) = 69 := fun L h => by
    have hl := HLT L h
    refine ⟨by omega, ?_⟩
    have : L[0] = h8 := (List.getElem_of_eq h _).trans rfl
    rw [this, eh]; rfl
  have HX1 : ∀ L : List UInt8, L = xs → L.length = 1 := fun L h => by rw [h, hx]
  clear hN e0 e1 e4 e5 e6 e7 e8 eh ho hx
  go_enter Try.func19, Try.ntmps19
  go_wp2_with fail
  have hr7 : Rd bv (w.alloc (.cells #[.int .u8 7] 5)) (w.alloc (.cells #[.int .u8 7] 5)).heap.size (some ⟨w.heap.size, 0, none⟩) 1 xs := by
    rw [hxs]; exact lit_at w w.heap.size [7] rfl #[.int .u8 7] rfl _ (by simp)
  refine (H2 _ _ _ hr7).out.mono ?_
  rintro e w1 ⟨L, A, c, rfl, HL, r, hbel⟩
  have hB := bnext (bnextA (Below.refl w.heap.size w) _) hbel
  have hlen := HLT L HL.out
  obtain ⟨hp, h0⟩ := HL0 L HL.out
  clear hbel H2 hr7
  go_wp2_with fail
  have h3 := H3 L HL.out _ _ _ r
  rw [hlen] at h3
  refine h3.out.mono ?_
  rintro e w2 ⟨Lo, Ao, co, Lx, Ax, cx, rfl, HLo, HLx, -, -, hbel⟩
  have hlx := HX1 Lx HLx.out
  replace hB := bnext hB hbel
  obtain ⟨b0, off, rfl, hb0, hc0⟩ := byt_at (r.next hbel) (k := 0) hp
  have k0 := hc0 0 hp
  rw [h0, Nat.add_zero] at k0
  have hi0 : (0 : Int) < 21 := by omega
  clear hbel H3 r h3 hc0
  go_wp2_with fail
  go_ret
  exact ⟨rfl, bnextA hB _⟩

theorem u16_be (xs : List UInt8) (k : Nat) (h : k + 2 ≤ xs.length) : ∃ a : UInt16, beN ((xs.drop k).take 2) = a.toNat := by
  refine ⟨UInt16.ofNat (beN ((xs.drop k).take 2)), ?_⟩
  rw [UInt16.ofNat_id _ (two_lt xs k h)]
theorem u32_be (xs : List UInt8) (k : Nat) : ∃ a : UInt32, beN ((xs.drop k).take 4) = a.toNat := by
  refine ⟨UInt32.ofNat (beN ((xs.drop k).take 4)), ?_⟩
  have := beN_lt ((xs.drop k).take 4)
  simp
  omega
set_option maxHeartbeats 4000000 in
theorem Ipv4Parses_walk (a0 : Option Addr) (len0 cap0 : Nat) (z0 : List Int) (w : World) (w0 : InRow .u8 w a0 len0 cap0 z0) :
    Calls Try.prog 3 #[.slice a0 len0 cap0] w fun e w' => e = .returned (.bool true) ∧ Below w.heap.size w w' := by
  obtain ⟨xs, hxl, ha, HFa⟩ := few_row w0 400 (by omega)
  clear w0

  by_cases h20 : xs.length < 20
  · skip
    have P1 := fun W (h : Rd bv W W.heap.size a0 cap0 xs) => Lib.hid (pparse_bad 4 (by omega) a0 cap0 xs W h fun W h => Lib.hid (pmeas_short a0 cap0 xs W h h20))
    have P2 := fun W (h : Rd bv W W.heap.size a0 cap0 xs) => Lib.hid (rpparse_short a0 cap0 xs W h h20)
    clear h20
    go_enter Try.func3, Try.ntmps3
    have hB := Below.refl w.heap.size w
    go_wp2_with fail
    refine (HFa.out).mono ?_
    rintro e w_1 ⟨rfl, rfl⟩
    go_wp2_with fail
    refine (P1 _ ha).out.mono ?_
    rintro e w_2 ⟨rfl, hbel⟩
    replace hB := bnext hB hbel
    replace ha := ha.next hbel
    clear hbel
    go_wp2_with fail
    refine (P2 _ (ha.nextA _)).out.mono ?_
    rintro e w_3 ⟨rfl, hbel⟩
    obtain ⟨p0, p1, p2, p3, p4, p5, p6, p7, p8, p9, p10, -⟩ := ((Blk.new w_2 #[.int .u8 0, .int .u16 0, .bool false, .bool false, .int .u16 0, .int .u8 0, .int .u8 0, .int .u32 0, .int .u32 0, .slice none 0 0, .slice none 0 0] 27).next hbel).get11
    have hlt : w_2.heap.size < w_3.heap.size := by have := hbel.size; simp at this; omega
    replace hB := bnext (bnextA hB _) hbel
    clear hbel ha P1 P2
    go_wp2_with fail
    refine (psame_zero _).mono ?_
    rintro e w_4 ⟨rfl, hbel⟩
    replace hB := bnext (bnextA hB _) hbel
    clear hbel p0 p1 p2 p3 p4 p5 p6 p7 p8 p9 p10 hlt
    go_wp2_with fail
    go_wp2_with (go_at_call 19; refine (lives06_any _).mono ?_; rintro e wl ⟨rfl, hbel⟩)
    go_ret
    exact ⟨rfl, bnext hB hbel⟩
  · have h20' : 20 ≤ xs.length := by omega
    by_cases hm1 : (xs[0]).toNat < 69
    · skip
      have P1 := fun W (h : Rd bv W W.heap.size a0 cap0 xs) => Lib.hid (pparse_bad 3 (by omega) a0 cap0 xs W h fun W h => Lib.hid (pmeas_form0 a0 cap0 xs W h h20' hm1))
      have P2 := fun W (h : Rd bv W W.heap.size a0 cap0 xs) => Lib.hid (rpparse_form0 a0 cap0 xs W h h20' hm1)
      clear hm1
      go_enter Try.func3, Try.ntmps3
      have hB := Below.refl w.heap.size w
      go_wp2_with fail
      refine (HFa.out).mono ?_
      rintro e w_2 ⟨rfl, rfl⟩
      go_wp2_with fail
      refine (P1 _ ha).out.mono ?_
      rintro e w_2 ⟨rfl, hbel⟩
      replace hB := bnext hB hbel
      replace ha := ha.next hbel
      clear hbel
      go_wp2_with fail
      refine (P2 _ (ha.nextA _)).out.mono ?_
      rintro e w_3 ⟨rfl, hbel⟩
      obtain ⟨p0, p1, p2, p3, p4, p5, p6, p7, p8, p9, p10, -⟩ := ((Blk.new w_2 #[.int .u8 0, .int .u16 0, .bool false, .bool false, .int .u16 0, .int .u8 0, .int .u8 0, .int .u32 0, .int .u32 0, .slice none 0 0, .slice none 0 0] 27).next hbel).get11
      have hlt : w_2.heap.size < w_3.heap.size := by have := hbel.size; simp at this; omega
      replace hB := bnext (bnextA hB _) hbel
      clear hbel ha P1 P2
      go_wp2_with fail
      refine (psame_zero _).mono ?_
      rintro e w_4 ⟨rfl, hbel⟩
      replace hB := bnext (bnextA hB _) hbel
      clear hbel p0 p1 p2 p3 p4 p5 p6 p7 p8 p9 p10 hlt
      go_wp2_with fail
      go_wp2_with (go_at_call 19; refine (lives06_any _).mono ?_; rintro e wl ⟨rfl, hbel⟩)
      go_ret
      exact ⟨rfl, bnext hB hbel⟩
    · by_cases hm2 : 79 < (xs[0]).toNat
      · skip
        have P1 := fun W (h : Rd bv W W.heap.size a0 cap0 xs) => Lib.hid (pparse_bad 3 (by omega) a0 cap0 xs W h fun W h => Lib.hid (pmeas_form1 a0 cap0 xs W h h20' hm2))
        have P2 := fun W (h : Rd bv W W.heap.size a0 cap0 xs) => Lib.hid (rpparse_form1 a0 cap0 xs W h h20' hm2)
        clear hm1 hm2
        go_enter Try.func3, Try.ntmps3
        have hB := Below.refl w.heap.size w
        go_wp2_with fail
        refine (HFa.out).mono ?_
        rintro e w_3 ⟨rfl, rfl⟩
        go_wp2_with fail
        refine (P1 _ ha).out.mono ?_
        rintro e w_2 ⟨rfl, hbel⟩
        replace hB := bnext hB hbel
        replace ha := ha.next hbel
        clear hbel
        go_wp2_with fail
        refine (P2 _ (ha.nextA _)).out.mono ?_
        rintro e w_3 ⟨rfl, hbel⟩
        obtain ⟨p0, p1, p2, p3, p4, p5, p6, p7, p8, p9, p10, -⟩ := ((Blk.new w_2 #[.int .u8 0, .int .u16 0, .bool false, .bool false, .int .u16 0, .int .u8 0, .int .u8 0, .int .u32 0, .int .u32 0, .slice none 0 0, .slice none 0 0] 27).next hbel).get11
        have hlt : w_2.heap.size < w_3.heap.size := by have := hbel.size; simp at this; omega
        replace hB := bnext (bnextA hB _) hbel
        clear hbel ha P1 P2
        go_wp2_with fail
        refine (psame_zero _).mono ?_
        rintro e w_4 ⟨rfl, hbel⟩
        replace hB := bnext (bnextA hB _) hbel
        clear hbel p0 p1 p2 p3 p4 p5 p6 p7 p8 p9 p10 hlt
        go_wp2_with fail
        go_wp2_with (go_at_call 19; refine (lives06_any _).mono ?_; rintro e wl ⟨rfl, hbel⟩)
        go_ret
        exact ⟨rfl, bnext hB hbel⟩
      · obtain ⟨m, hm⟩ : ∃ m, (xs[0]).toNat = 64 + m := ⟨(xs[0]).toNat - 64, by omega⟩
        have hm5 : 5 ≤ m := by omega
        have hm15 : m ≤ 15 := by omega
        clear hm1 hm2
        by_cases hl : xs.length < 4 * m
        · skip
          have P1 := fun W (h : Rd bv W W.heap.size a0 cap0 xs) => Lib.hid (pparse_bad 4 (by omega) a0 cap0 xs W h fun W h => Lib.hid (pmeas_long a0 cap0 xs W h h20' m hm hm5 hm15 hl))
          have P2 := fun W (h : Rd bv W W.heap.size a0 cap0 xs) => Lib.hid (rpparse_long a0 cap0 xs W h h20' m hm hm5 hm15 hl)
          clear hm hl
          go_enter Try.func3, Try.ntmps3
          have hB := Below.refl w.heap.size w
          go_wp2_with fail
          refine (HFa.out).mono ?_
          rintro e w_4 ⟨rfl, rfl⟩
          go_wp2_with fail
          refine (P1 _ ha).out.mono ?_
          rintro e w_2 ⟨rfl, hbel⟩
          replace hB := bnext hB hbel
          replace ha := ha.next hbel
          clear hbel
          go_wp2_with fail
          refine (P2 _ (ha.nextA _)).out.mono ?_
          rintro e w_3 ⟨rfl, hbel⟩
          obtain ⟨p0, p1, p2, p3, p4, p5, p6, p7, p8, p9, p10, -⟩ := ((Blk.new w_2 #[.int .u8 0, .int .u16 0, .bool false, .bool false, .int .u16 0, .int .u8 0, .int .u8 0, .int .u32 0, .int .u32 0, .slice none 0 0, .slice none 0 0] 27).next hbel).get11
          have hlt : w_2.heap.size < w_3.heap.size := by have := hbel.size; simp at this; omega
          replace hB := bnext (bnextA hB _) hbel
          clear hbel ha P1 P2
          go_wp2_with fail
          refine (psame_zero _).mono ?_
          rintro e w_4 ⟨rfl, hbel⟩
          replace hB := bnext (bnextA hB _) hbel
          clear hbel p0 p1 p2 p3 p4 p5 p6 p7 p8 p9 p10 hlt
          go_wp2_with fail
          go_wp2_with (go_at_call 19; refine (lives06_any _).mono ?_; rintro e wl ⟨rfl, hbel⟩)
          go_ret
          exact ⟨rfl, bnext hB hbel⟩
        · have hl' : 4 * m ≤ xs.length := by omega
          by_cases hN : onesN (xs.take (4 * m)) = 65535
          · obtain ⟨fl, hfl⟩ : ∃ fl, beN ((xs.drop 6).take 2) = fl := ⟨_, rfl⟩
            obtain ⟨al, hal⟩ : ∃ al, beN ((xs.drop 2).take 2) = al := ⟨_, rfl⟩
            by_cases hhi : 32768 ≤ fl
            · skip
              have P1 := fun W (h : Rd bv W W.heap.size a0 cap0 xs) => Lib.hid (pparse_bad 3 (by omega) a0 cap0 xs W h fun W h => Lib.hid (pmeas_hi a0 cap0 xs W h h20' m hm hm5 hm15 hl' hN fl al hfl hal hhi (by omega)))
              have P2 := fun W (h : Rd bv W W.heap.size a0 cap0 xs) => Lib.hid (rpparse_hi a0 cap0 xs W h h20' m hm hm5 hm15 hl' hN fl al hfl hal hhi)
              clear hm hN hfl hal hhi
              go_enter Try.func3, Try.ntmps3
              have hB := Below.refl w.heap.size w
              go_wp2_with fail
              refine (HFa.out).mono ?_
              rintro e w_5 ⟨rfl, rfl⟩
              go_wp2_with fail
              refine (P1 _ ha).out.mono ?_
              rintro e w_2 ⟨rfl, hbel⟩
              replace hB := bnext hB hbel
              replace ha := ha.next hbel
              clear hbel
              go_wp2_with fail
              refine (P2 _ (ha.nextA _)).out.mono ?_
              rintro e w_3 ⟨rfl, hbel⟩
              obtain ⟨p0, p1, p2, p3, p4, p5, p6, p7, p8, p9, p10, -⟩ := ((Blk.new w_2 #[.int .u8 0, .int .u16 0, .bool false, .bool false, .int .u16 0, .int .u8 0, .int .u8 0, .int .u32 0, .int .u32 0, .slice none 0 0, .slice none 0 0] 27).next hbel).get11
              have hlt : w_2.heap.size < w_3.heap.size := by have := hbel.size; simp at this; omega
              replace hB := bnext (bnextA hB _) hbel
              clear hbel ha P1 P2
              go_wp2_with fail
              refine (psame_zero _).mono ?_
              rintro e w_4 ⟨rfl, hbel⟩
              replace hB := bnext (bnextA hB _) hbel
              clear hbel p0 p1 p2 p3 p4 p5 p6 p7 p8 p9 p10 hlt
              go_wp2_with fail
              go_wp2_with (go_at_call 19; refine (lives06_any _).mono ?_; rintro e wl ⟨rfl, hbel⟩)
              go_ret
              exact ⟨rfl, bnext hB hbel⟩
            · have hlo : fl < 32768 := by omega
              by_cases hla : al < 4 * m
              · skip
                have P1 := fun W (h : Rd bv W W.heap.size a0 cap0 xs) => Lib.hid (pparse_bad 3 (by omega) a0 cap0 xs W h fun W h => Lib.hid (pmeas_less a0 cap0 xs W h h20' m hm hm5 hm15 hl' hN fl al hfl hal hlo hla (by omega)))
                have P2 := fun W (h : Rd bv W W.heap.size a0 cap0 xs) => Lib.hid (rpparse_less a0 cap0 xs W h h20' m hm hm5 hm15 hl' hN fl al hfl hal hlo hla)
                clear hm hN hfl hal hhi hlo hla
                go_enter Try.func3, Try.ntmps3
                have hB := Below.refl w.heap.size w
                go_wp2_with fail
                refine (HFa.out).mono ?_
                rintro e w_6 ⟨rfl, rfl⟩
                go_wp2_with fail
                refine (P1 _ ha).out.mono ?_
                rintro e w_2 ⟨rfl, hbel⟩
                replace hB := bnext hB hbel
                replace ha := ha.next hbel
                clear hbel
                go_wp2_with fail
                refine (P2 _ (ha.nextA _)).out.mono ?_
                rintro e w_3 ⟨rfl, hbel⟩
                obtain ⟨p0, p1, p2, p3, p4, p5, p6, p7, p8, p9, p10, -⟩ := ((Blk.new w_2 #[.int .u8 0, .int .u16 0, .bool false, .bool false, .int .u16 0, .int .u8 0, .int .u8 0, .int .u32 0, .int .u32 0, .slice none 0 0, .slice none 0 0] 27).next hbel).get11
                have hlt : w_2.heap.size < w_3.heap.size := by have := hbel.size; simp at this; omega
                replace hB := bnext (bnextA hB _) hbel
                clear hbel ha P1 P2
                go_wp2_with fail
                refine (psame_zero _).mono ?_
                rintro e w_4 ⟨rfl, hbel⟩
                replace hB := bnext (bnextA hB _) hbel
                clear hbel p0 p1 p2 p3 p4 p5 p6 p7 p8 p9 p10 hlt
                go_wp2_with fail
                go_wp2_with (go_at_call 19; refine (lives06_any _).mono ?_; rintro e wl ⟨rfl, hbel⟩)
                go_ret
                exact ⟨rfl, bnext hB hbel⟩
              · have hla' : 4 * m ≤ al := by omega
                by_cases hov : xs.length < al
                · skip
                  have P1 := fun W (h : Rd bv W W.heap.size a0 cap0 xs) => Lib.hid (pparse_bad 4 (by omega) a0 cap0 xs W h fun W h => Lib.hid (pmeas_over a0 cap0 xs W h h20' m hm hm5 hm15 hl' hN fl al hfl hal hlo hla' hov (by omega)))
                  have P2 := fun W (h : Rd bv W W.heap.size a0 cap0 xs) => Lib.hid (rpparse_over a0 cap0 xs W h h20' m hm hm5 hm15 hl' hN fl al hfl hal hlo hla' hov)
                  clear hm hN hfl hal hhi hlo hla hla' hov
                  go_enter Try.func3, Try.ntmps3
                  have hB := Below.refl w.heap.size w
                  go_wp2_with fail
                  refine (HFa.out).mono ?_
                  rintro e w_7 ⟨rfl, rfl⟩
                  go_wp2_with fail
                  refine (P1 _ ha).out.mono ?_
                  rintro e w_2 ⟨rfl, hbel⟩
                  replace hB := bnext hB hbel
                  replace ha := ha.next hbel
                  clear hbel
                  go_wp2_with fail
                  refine (P2 _ (ha.nextA _)).out.mono ?_
                  rintro e w_3 ⟨rfl, hbel⟩
                  obtain ⟨p0, p1, p2, p3, p4, p5, p6, p7, p8, p9, p10, -⟩ := ((Blk.new w_2 #[.int .u8 0, .int .u16 0, .bool false, .bool false, .int .u16 0, .int .u8 0, .int .u8 0, .int .u32 0, .int .u32 0, .slice none 0 0, .slice none 0 0] 27).next hbel).get11
                  have hlt : w_2.heap.size < w_3.heap.size := by have := hbel.size; simp at this; omega
                  replace hB := bnext (bnextA hB _) hbel
                  clear hbel ha P1 P2
                  go_wp2_with fail
                  refine (psame_zero _).mono ?_
                  rintro e w_4 ⟨rfl, hbel⟩
                  replace hB := bnext (bnextA hB _) hbel
                  clear hbel p0 p1 p2 p3 p4 p5 p6 p7 p8 p9 p10 hlt
                  go_wp2_with fail
                  go_wp2_with (go_at_call 19; refine (lives06_any _).mono ?_; rintro e wl ⟨rfl, hbel⟩)
                  go_ret
                  exact ⟨rfl, bnext hB hbel⟩
                · obtain ⟨id, hi0⟩ := u16_be xs 4 (by omega)
                  obtain ⟨s, hs0⟩ := u32_be xs 12
                  obtain ⟨d, hd0⟩ := u32_be xs 16
                  obtain ⟨fo, hf0⟩ : ∃ fo : UInt16, fl % 8192 = fo.toNat := ⟨UInt16.ofNat (fl % 8192), by rw [UInt16.ofNat_id _ (by omega)]⟩
                  obtain ⟨D, hD⟩ : ∃ D, decide (16384 ≤ fl) = D := ⟨_, rfl⟩
                  obtain ⟨M, hM⟩ : ∃ M, decide (fl / 8192 % 2 = 1) = M := ⟨_, rfl⟩
                  have P1 := fun W (h : Rd bv W W.heap.size a0 cap0 xs) => Lib.hid (pparse_ok a0 cap0 xs W h h20' m hm hm5 hm15 hl' hN fl al hfl hal hlo hla' (by omega) (by omega) (xs[1]) id D M fo (xs[8]) (xs[9]) s d rfl hi0 hD hM hf0 rfl rfl hs0 hd0)
                  have P2 := fun W (h : Rd bv W W.heap.size a0 cap0 xs) => Lib.hid (rpparse_ok a0 cap0 xs W h h20' m hm hm5 hm15 hl' hN fl al hfl hal hlo hla' (by omega) (by omega) (xs[1]) id D M fo (xs[8]) (xs[9]) s d rfl hi0 hD hM hf0 rfl rfl hs0 hd0)
                  generalize xs[1] = tos at P1 P2
                  generalize xs[8] = ttl at P1 P2
                  generalize xs[9] = pr at P1 P2
                  clear hm hN hfl hal hhi hlo hla hla' hov hi0 hs0 hd0 hf0 hD hM
                  go_enter Try.func3, Try.ntmps3
                  have hB := Below.refl w.heap.size w
                  go_wp2_with fail
                  refine (HFa.out).mono ?_
                  rintro e w_8 ⟨rfl, rfl⟩
                  go_wp2_with fail
                  refine (P1 _ ha).out.mono ?_
                  rintro e w_2 ⟨Lo, Ao, co, Lx, Ax, cx, rfl, HLo, HLx, ro, rx, hbel⟩
                  replace hB := bnext hB hbel
                  replace ha := ha.next hbel
                  clear hbel
                  go_wp2_with fail
                  refine (P2 _ (ha.nextA _)).out.mono ?_
                  rintro e w_3 ⟨Mo, Bo, do_, Mx, Bx, dx, rfl, HMo, HMx, so, sx, hbel⟩
                  replace ro := (ro.nextA _).next hbel
                  replace rx := (rx.nextA _).next hbel
                  obtain ⟨p0, p1, p2, p3, p4, p5, p6, p7, p8, p9, p10, -⟩ := ((Blk.new w_2 #[.int .u8 (tos.toNat : Int), .int .u16 (id.toNat : Int), .bool D, .bool M, .int .u16 (fo.toNat : Int), .int .u8 (ttl.toNat : Int), .int .u8 (pr.toNat : Int), .int .u32 (s.toNat : Int), .int .u32 (d.toNat : Int), .slice Ao Lo.length co, .slice Ax Lx.length cx] 27).next hbel).get11
                  have hlt : w_2.heap.size < w_3.heap.size := by have := hbel.size; simp at this; omega
                  replace hB := bnext (bnextA hB _) hbel
                  clear hbel ha P1 P2
                  go_wp2_with fail
                  refine (psame_yes tos id D M fo ttl pr s d _ _ _ _ _ _ _ _ Lo Lx Mo Mx _ (ro.nextA _) (rx.nextA _) (so.nextA _) (sx.nextA _) (by rw [HMo.out, HLo.out]) (by rw [HMx.out, HLx.out])).mono ?_
                  rintro e w_4 ⟨rfl, hbel⟩
                  replace hB := bnext (bnextA hB _) hbel
                  clear hbel p0 p1 p2 p3 p4 p5 p6 p7 p8 p9 p10 hlt ro rx so sx
                  go_wp2_with fail
                  go_wp2_with (go_at_call 19; refine (lives06_any _).mono ?_; rintro e wl ⟨rfl, hbel⟩)
                  go_ret
                  exact ⟨rfl, bnext hB hbel⟩
          · skip
            have P1 := fun W (h : Rd bv W W.heap.size a0 cap0 xs) => Lib.hid (pparse_bad 5 (by omega) a0 cap0 xs W h fun W h => Lib.hid (pmeas_sum a0 cap0 xs W h h20' m hm hm5 hm15 hl' hN))
            have P2 := fun W (h : Rd bv W W.heap.size a0 cap0 xs) => Lib.hid (rpparse_sum a0 cap0 xs W h h20' m hm hm5 hm15 hl' hN)
            clear hm hN
            go_enter Try.func3, Try.ntmps3
            have hB := Below.refl w.heap.size w
            go_wp2_with fail
            refine (HFa.out).mono ?_
            rintro e w_9 ⟨rfl, rfl⟩
            go_wp2_with fail
            refine (P1 _ ha).out.mono ?_
            rintro e w_2 ⟨rfl, hbel⟩
            replace hB := bnext hB hbel
            replace ha := ha.next hbel
            clear hbel
            go_wp2_with fail
            refine (P2 _ (ha.nextA _)).out.mono ?_
            rintro e w_3 ⟨rfl, hbel⟩
            obtain ⟨p0, p1, p2, p3, p4, p5, p6, p7, p8, p9, p10, -⟩ := ((Blk.new w_2 #[.int .u8 0, .int .u16 0, .bool false, .bool false, .int .u16 0, .int .u8 0, .int .u8 0, .int .u32 0, .int .u32 0, .slice none 0 0, .slice none 0 0] 27).next hbel).get11
            have hlt : w_2.heap.size < w_3.heap.size := by have := hbel.size; simp at this; omega
            replace hB := bnext (bnextA hB _) hbel
            clear hbel ha P1 P2
            go_wp2_with fail
            refine (psame_zero _).mono ?_
            rintro e w_4 ⟨rfl, hbel⟩
            replace hB := bnext (bnextA hB _) hbel
            clear hbel p0 p1 p2 p3 p4 p5 p6 p7 p8 p9 p10 hlt
            go_wp2_with fail
            go_wp2_with (go_at_call 19; refine (lives06_any _).mono ?_; rintro e wl ⟨rfl, hbel⟩)
            go_ret
            exact ⟨rfl, bnext hB hbel⟩
end Go.Proofs.Ytfejdfdgbfpgkaa
