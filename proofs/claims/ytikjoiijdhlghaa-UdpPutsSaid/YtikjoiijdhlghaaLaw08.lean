/- The walks of the statements on package udp. -/
import Derived.Test.YtikjoiijdhlghaaUdp5
namespace Go.Proofs.Ytikjoiijdhlghaa
open Go.RowKit

theorem u16_be (xs : List UInt8) (k : Nat) (h : k + 2 ≤ xs.length) : ∃ a : UInt16, beN ((xs.drop k).take 2) = a.toNat := by
  refine ⟨UInt16.ofNat (beN ((xs.drop k).take 2)), ?_⟩
  rw [take_two xs k h, beN_two, UInt16.ofNat_id]
  have h1 := (xs[k]).toNat_lt
  have h2 := (xs[k + 1]).toNat_lt
  generalize (xs[k]).toNat = x at h1 ⊢
  generalize (xs[k + 1]).toNat = y at h2 ⊢
  omega
theorem lives08_any (w : World) : Calls Try.prog 27 #[] w fun e w' => e = .returned (.bool true) ∧ Below w.heap.size w w' := by
  have hp := Lib.hid (uput_any 1 2 1 2 true none 0 [] w (Rd.nil0 _ _ _) (by simp) 0 rfl)
  go_enter Try.func27, Try.ntmps27
  go_wp2_with fail
  refine hp.out.mono ?_
  rintro e w1 ⟨L1, A1, c1, rfl, HL1, hr1, hb1⟩
  have hL : L1 = [0, 1, 0, 2, 0, 8, 0, 0] := by rw [HL1.out]; decide
  have H2 := Lib.hid hL
  clear hL hp
  go_wp2_with fail
  refine (rsame_eq _ _ _ _ L1 [0, 1, 0, 2, 0, 8, 0, 0] _ _ (hr1.nextA _) (lit_at _ _ [0, 1, 0, 2, 0, 8, 0, 0] rfl _ rfl _ (by simp)) H2.out).mono ?_
  rintro e w3 ⟨rfl, hd⟩
  go_wp2_with fail
  go_ret
  exact ⟨rfl, bnext (bnextA hb1 _) hd.bel⟩

theorem UdpHeads_walk (a0 a1 a2 a3 : Int) (w : World) (w0 : (Lit.int .u32 a0).wf = true) (w1 : (Lit.int .u32 a1).wf = true) (w2 : (Lit.int .u8 a2).wf = true) (_w3 : (Lit.int .i64 a3).wf = true) :
    Calls Try.prog 6 #[.int .u32 a0, .int .u32 a1, .int .u8 a2, .int .i64 a3] w fun e w' => e = .returned (.bool true) ∧ Below w.heap.size w w' := by
  obtain ⟨s, rfl⟩ := u32_of w0
  obtain ⟨d, rfl⟩ := u32_of w1
  obtain ⟨p, rfl⟩ := u8_of w2
  clear w0 w1 w2 _w3
  by_cases h0 : a3 < 0
  · have hB := Below.refl w.heap.size w
    have hd0 : decide (a3 < 0) = true := by simpa using h0
    go_enter Try.func6, Try.ntmps6
    go_wp2_with fail
    refine (lives08_any _).mono ?_
    rintro e wl ⟨rfl, hbel⟩
    go_wp2_with fail
    go_ret
    exact ⟨rfl, bnext hB hbel⟩
  · by_cases h1 : 65535 < a3
    · have hB := Below.refl w.heap.size w
      have hd0 : decide (a3 < 0) = false := by simpa using h0
      have hd1 : decide (65535 < a3) = true := by simpa using h1
      go_enter Try.func6, Try.ntmps6
      go_wp2_with fail
      refine (lives08_any _).mono ?_
      rintro e wl ⟨rfl, hbel⟩
      go_wp2_with fail
      go_ret
      exact ⟨rfl, bnext hB hbel⟩
    · obtain ⟨n, rfl⟩ : ∃ n : Nat, a3 = n := ⟨a3.toNat, by omega⟩
      have hn : n ≤ 65535 := by omega
      clear h0 h1
      go_enter Try.func6, Try.ntmps6
      have hB := Below.refl w.heap.size w
      go_wp2_with fail
      refine (uhead_any s d p n hn _).mono ?_
      rintro e w_1 ⟨Lra, Ara, cra, rfl, Hra, ra, hbel⟩
      replace hB := bnext hB hbel
      clear hbel
      go_wp2_with fail
      refine (ruhead_any s d p n hn _).mono ?_
      rintro e w_2 ⟨Lrb, Arb, crb, rfl, Hrb, rb, hbel⟩
      replace hB := bnext hB hbel
      replace ra := ra.next hbel
      clear hbel
      go_wp2_with fail
      refine (rsame_eq _ _ _ _ Lra Lrb _ _ ra rb (by rw [Hra.out, Hrb.out])).mono ?_
      rintro e w_3 ⟨rfl, hbel⟩
      replace hbel := hbel.bel
      replace hB := bnext hB hbel
      replace ra := ra.next hbel
      replace rb := rb.next hbel
      clear hbel
      clear ra rb
      go_wp2_with (go_at_call 27; refine (lives08_any _).mono ?_; rintro e wl ⟨rfl, hbel⟩)
      go_ret
      exact ⟨rfl, bnext hB hbel⟩

set_option maxHeartbeats 1000000 in
theorem UdpParses_walk (a0 a1 : Int) (a2 : Option Addr) (len2 cap2 : Nat) (z2 : List Int) (w : World) (w0 : (Lit.int .u32 a0).wf = true) (w1 : (Lit.int .u32 a1).wf = true) (w2 : InRow .u8 w a2 len2 cap2 z2) :
    Calls Try.prog 7 #[.int .u32 a0, .int .u32 a1, .slice a2 len2 cap2] w fun e w' => e = .returned (.bool true) ∧ Below w.heap.size w w' := by
  obtain ⟨s, rfl⟩ := u32_of w0
  obtain ⟨d, rfl⟩ := u32_of w1
  obtain ⟨xs, hxl, ha, HFa⟩ := few_row w2 300 (by omega)
  clear w0 w1 w2
  by_cases h8 : xs.length < 8
  · have P1 := fun W (h : Rd bv W W.heap.size a2 cap2 xs) => Lib.hid (uparse_short s d a2 cap2 xs W h h8)
    have P2 := fun W (h : Rd bv W W.heap.size a2 cap2 xs) => Lib.hid (ruparse_short s d a2 cap2 xs W h h8)
    go_enter Try.func7, Try.ntmps7
    have hB := Below.refl w.heap.size w
    go_wp2_with fail
    refine (HFa.out).mono ?_
    rintro e w_4 ⟨rfl, rfl⟩
    go_wp2_with fail
    refine (P1 _ ha).out.mono ?_
    rintro e w_2 ⟨rfl, hbel⟩
    replace hB := bnext hB hbel
    replace ha := ha.next hbel
    clear hbel
    go_wp2_with fail
    refine (P2 _ (ha.nextA _)).out.mono ?_
    rintro e w_3 ⟨rfl, hbel⟩
    obtain ⟨p0, p1, p2, p3, -, -, -, -⟩ := blk4 rfl hbel
    have hlt : w_2.heap.size < w_3.heap.size := by have := hbel.size; simp at this; omega
    replace hB := bnext (bnextA hB _) hbel
    clear hbel ha P1 P2
    go_wp2_with fail
    refine (usame_zero _).mono ?_
    rintro e w_4 ⟨rfl, hbel⟩
    replace hB := bnext (bnextA hB _) hbel
    clear hbel p0 p1 p2 p3 hlt
    go_wp2_with fail
    go_wp2_with (go_at_call 27; refine (lives08_any _).mono ?_; rintro e wl ⟨rfl, hbel⟩)
    go_ret
    exact ⟨rfl, bnext hB hbel⟩
  · obtain ⟨n, hn⟩ : ∃ n, beN ((xs.drop 4).take 2) = n := ⟨_, rfl⟩
    by_cases hn8 : n < 8
    · have P1 := fun W (h : Rd bv W W.heap.size a2 cap2 xs) => Lib.hid (uparse_form s d a2 cap2 xs W h (by omega) n hn hn8)
      have P2 := fun W (h : Rd bv W W.heap.size a2 cap2 xs) => Lib.hid (ruparse_form s d a2 cap2 xs W h (by omega) n hn hn8)
      clear hn
      go_enter Try.func7, Try.ntmps7
      have hB := Below.refl w.heap.size w
      go_wp2_with fail
      refine (HFa.out).mono ?_
      rintro e w_5 ⟨rfl, rfl⟩
      go_wp2_with fail
      refine (P1 _ ha).out.mono ?_
      rintro e w_2 ⟨rfl, hbel⟩
      replace hB := bnext hB hbel
      replace ha := ha.next hbel
      clear hbel
      go_wp2_with fail
      refine (P2 _ (ha.nextA _)).out.mono ?_
      rintro e w_3 ⟨rfl, hbel⟩
      obtain ⟨p0, p1, p2, p3, -, -, -, -⟩ := blk4 rfl hbel
      have hlt : w_2.heap.size < w_3.heap.size := by have := hbel.size; simp at this; omega
      replace hB := bnext (bnextA hB _) hbel
      clear hbel ha P1 P2
      go_wp2_with fail
      refine (usame_zero _).mono ?_
      rintro e w_4 ⟨rfl, hbel⟩
      replace hB := bnext (bnextA hB _) hbel
      clear hbel p0 p1 p2 p3 hlt
      go_wp2_with fail
      go_wp2_with (go_at_call 27; refine (lives08_any _).mono ?_; rintro e wl ⟨rfl, hbel⟩)
      go_ret
      exact ⟨rfl, bnext hB hbel⟩
    · by_cases hnl : xs.length < n
      · have P1 := fun W (h : Rd bv W W.heap.size a2 cap2 xs) => Lib.hid (uparse_long s d a2 cap2 xs W h (by omega) n hn (by omega) hnl)
        have P2 := fun W (h : Rd bv W W.heap.size a2 cap2 xs) => Lib.hid (ruparse_long s d a2 cap2 xs W h (by omega) n hn (by omega) hnl)
        clear hn
        go_enter Try.func7, Try.ntmps7
        have hB := Below.refl w.heap.size w
        go_wp2_with fail
        refine (HFa.out).mono ?_
        rintro e w_6 ⟨rfl, rfl⟩
        go_wp2_with fail
        refine (P1 _ ha).out.mono ?_
        rintro e w_2 ⟨rfl, hbel⟩
        replace hB := bnext hB hbel
        replace ha := ha.next hbel
        clear hbel
        go_wp2_with fail
        refine (P2 _ (ha.nextA _)).out.mono ?_
        rintro e w_3 ⟨rfl, hbel⟩
        obtain ⟨p0, p1, p2, p3, -, -, -, -⟩ := blk4 rfl hbel
        have hlt : w_2.heap.size < w_3.heap.size := by have := hbel.size; simp at this; omega
        replace hB := bnext (bnextA hB _) hbel
        clear hbel ha P1 P2
        go_wp2_with fail
        refine (usame_zero _).mono ?_
        rintro e w_4 ⟨rfl, hbel⟩
        replace hB := bnext (bnextA hB _) hbel
        clear hbel p0 p1 p2 p3 hlt
        go_wp2_with fail
        go_wp2_with (go_at_call 27; refine (lives08_any _).mono ?_; rintro e wl ⟨rfl, hbel⟩)
        go_ret
        exact ⟨rfl, bnext hB hbel⟩
      · obtain ⟨ts, hts⟩ : ∃ ts, xs.take n = ts := ⟨_, rfl⟩
        obtain rfl : n = ts.length := by rw [← hts]; simp; omega
        obtain ⟨t, ht⟩ : ∃ t, beN ((xs.drop 6).take 2) = t := ⟨_, rfl⟩
        by_cases ht0 : t = 0
        · skip
          obtain ⟨a, ha0⟩ : ∃ a : UInt16, beN ((xs.drop 0).take 2) = a.toNat := u16_be xs 0 (by omega)
          obtain ⟨b, hb0⟩ : ∃ b : UInt16, beN ((xs.drop 2).take 2) = b.toNat := u16_be xs 2 (by omega)
          have P1 := fun W (h : Rd bv W W.heap.size a2 cap2 xs) => Lib.hid (uparse_bare s d a2 cap2 xs ts W h (by omega) (by omega) hn (by omega) (by omega) hts t ht ht0 _ _ ha0 hb0)
          have P2 := fun W (h : Rd bv W W.heap.size a2 cap2 xs) => Lib.hid (ruparse_bare s d a2 cap2 xs ts W h (by omega) (by omega) hn (by omega) (by omega) hts t ht ht0 _ _ ha0 hb0)
          clear ha0 hb0 hts ht hn ht0
          go_enter Try.func7, Try.ntmps7
          have hB := Below.refl w.heap.size w
          go_wp2_with fail
          refine (HFa.out).mono ?_
          rintro e w_7 ⟨rfl, rfl⟩
          go_wp2_with fail
          refine (P1 _ ha).out.mono ?_
          rintro e w_2 ⟨L2, A2, c2, rfl, HL2, r2, hbel⟩
          replace hB := bnext hB hbel
          replace ha := ha.next hbel
          clear hbel
          go_wp2_with fail
          refine (P2 _ (ha.nextA _)).out.mono ?_
          rintro e w_3 ⟨L3, A3, c3, rfl, HL3, r3, hbel⟩
          replace r2 := (r2.nextA _).next hbel
          obtain ⟨p0, p1, p2, p3, -, -, -, -⟩ := blk4 rfl hbel
          have hlt : w_2.heap.size < w_3.heap.size := by have := hbel.size; simp at this; omega
          replace hB := bnext (bnextA hB _) hbel
          clear hbel ha P1 P2
          go_wp2_with fail
          refine (usame_yes a b _ _ _ _ _ L2 L3 _ (r2.nextA _) (r3.nextA _) (by rw [HL2.out, HL3.out])).mono ?_
          rintro e w_4 ⟨rfl, hbel⟩
          replace hB := bnext (bnextA hB _) hbel
          clear hbel p0 p1 p2 p3 hlt
          go_wp2_with fail
          go_wp2_with (go_at_call 27; refine (lives08_any _).mono ?_; rintro e wl ⟨rfl, hbel⟩)
          go_ret
          exact ⟨rfl, bnext hB hbel⟩
        · by_cases hN : onesN (uh s d 17 ts.length ++ ts) = 65535
          · skip
            obtain ⟨a, ha0⟩ : ∃ a : UInt16, beN ((xs.drop 0).take 2) = a.toNat := u16_be xs 0 (by omega)
            obtain ⟨b, hb0⟩ : ∃ b : UInt16, beN ((xs.drop 2).take 2) = b.toNat := u16_be xs 2 (by omega)
            have P1 := fun W (h : Rd bv W W.heap.size a2 cap2 xs) => Lib.hid (uparse_full s d a2 cap2 xs ts W h (by omega) (by omega) hn (by omega) (by omega) hts t ht ht0 hN _ _ ha0 hb0)
            have P2 := fun W (h : Rd bv W W.heap.size a2 cap2 xs) => Lib.hid (ruparse_full s d a2 cap2 xs ts W h (by omega) (by omega) hn (by omega) (by omega) hts t ht ht0 hN _ _ ha0 hb0)
            clear ha0 hb0 hts ht hn ht0 hN
            go_enter Try.func7, Try.ntmps7
            have hB := Below.refl w.heap.size w
            go_wp2_with fail
            refine (HFa.out).mono ?_
            rintro e w_8 ⟨rfl, rfl⟩
            go_wp2_with fail
            refine (P1 _ ha).out.mono ?_
            rintro e w_2 ⟨L2, A2, c2, rfl, HL2, r2, hbel⟩
            replace hB := bnext hB hbel
            replace ha := ha.next hbel
            clear hbel
            go_wp2_with fail
            refine (P2 _ (ha.nextA _)).out.mono ?_
            rintro e w_3 ⟨L3, A3, c3, rfl, HL3, r3, hbel⟩
            replace r2 := (r2.nextA _).next hbel
            obtain ⟨p0, p1, p2, p3, -, -, -, -⟩ := blk4 rfl hbel
            have hlt : w_2.heap.size < w_3.heap.size := by have := hbel.size; simp at this; omega
            replace hB := bnext (bnextA hB _) hbel
            clear hbel ha P1 P2
            go_wp2_with fail
            refine (usame_yes a b _ _ _ _ _ L2 L3 _ (r2.nextA _) (r3.nextA _) (by rw [HL2.out, HL3.out])).mono ?_
            rintro e w_4 ⟨rfl, hbel⟩
            replace hB := bnext (bnextA hB _) hbel
            clear hbel p0 p1 p2 p3 hlt
            go_wp2_with fail
            go_wp2_with (go_at_call 27; refine (lives08_any _).mono ?_; rintro e wl ⟨rfl, hbel⟩)
            go_ret
            exact ⟨rfl, bnext hB hbel⟩
          · have P1 := fun W (h : Rd bv W W.heap.size a2 cap2 xs) => Lib.hid (uparse_sum s d a2 cap2 xs ts W h (by omega) (by omega) hn (by omega) (by omega) hts t ht ht0 hN)
            have P2 := fun W (h : Rd bv W W.heap.size a2 cap2 xs) => Lib.hid (ruparse_sum s d a2 cap2 xs ts W h (by omega) (by omega) hn (by omega) (by omega) hts t ht ht0 hN)
            clear hn hts ht ht0 hN
            go_enter Try.func7, Try.ntmps7
            have hB := Below.refl w.heap.size w
            go_wp2_with fail
            refine (HFa.out).mono ?_
            rintro e w_9 ⟨rfl, rfl⟩
            go_wp2_with fail
            refine (P1 _ ha).out.mono ?_
            rintro e w_2 ⟨rfl, hbel⟩
            replace hB := bnext hB hbel
            replace ha := ha.next hbel
            clear hbel
            go_wp2_with fail
            refine (P2 _ (ha.nextA _)).out.mono ?_
            rintro e w_3 ⟨rfl, hbel⟩
            obtain ⟨p0, p1, p2, p3, -, -, -, -⟩ := blk4 rfl hbel
            have hlt : w_2.heap.size < w_3.heap.size := by have := hbel.size; simp at this; omega
            replace hB := bnext (bnextA hB _) hbel
            clear hbel ha P1 P2
            go_wp2_with fail
            refine (usame_zero _).mono ?_
            rintro e w_4 ⟨rfl, hbel⟩
            replace hB := bnext (bnextA hB _) hbel
            clear hbel p0 p1 p2 p3 hlt
            go_wp2_with fail
            go_wp2_with (go_at_call 27; refine (lives08_any _).mono ?_; rintro e wl ⟨rfl, hbel⟩)
            go_ret
            exact ⟨rfl, bnext hB hbel⟩
end Go.Proofs.Ytikjoiijdhlghaa
