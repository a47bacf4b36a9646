/- Contract of the reference's Sum: the walk. -/
import Derived.Test.YteodjajjlgekcaaDoorSip5
namespace Go.Proofs.YteodjajjlgekcaaDoor
open Go.RowKit

def absR (s : Four) (xs : List UInt8) : Nat → Four
  | 0 => s
  | i + 1 => takeF (absR s xs i) (wnum xs i 8)
theorem absR_eq (s : Four) (xs : List UInt8) : ∀ i, i ≤ xs.length / 8 → absR s xs i = absorb s xs i
  | 0, _ => rfl
  | i + 1, h => by
    rw [absR, absorb, absR_eq s xs i (by omega), wnum_word xs i (by omega)]
theorem wnum64 (xs : List UInt8) (i : Nat) : wnum xs i 8 < 18446744073709551616 := wnum_lt xs i 8
theorem absR_fine (s : Four) (xs : List UInt8) (h : fine s) (j : Nat) : fine (absR s xs j) := by
  induction j with
  | zero => exact h
  | succ j ih => exact takeF_fine _ _ ih (wnum64 xs j)
theorem rround_st (s : Four) (h : fine s) (w : World) :
    Calls Tryd.prog 62 #[.agg #[.int .u64 (s.1 : Int), .int .u64 (s.2.1 : Int), .int .u64 (s.2.2.1 : Int), .int .u64 (s.2.2.2 : Int)]] w fun e w' => e = .returned (.agg #[.int .u64 ((rnd s).1 : Int), .int .u64 ((rnd s).2.1 : Int), .int .u64 ((rnd s).2.2.1 : Int), .int .u64 ((rnd s).2.2.2 : Int)]) ∧ Below w.heap.size w w' := by
  obtain ⟨a, b, c, d⟩ := s
  obtain ⟨la, lb, lc, ld⟩ := h
  refine (rround_any a b c d la lb lc ld w).mono ?_
  rintro e w' ⟨p, q, r, u, rfl, hr, hb⟩
  rw [hr.out]
  exact ⟨rfl, hb⟩
set_option maxHeartbeats 8000000 in
theorem rsum_sip (lo hi : Nat) (h1 : lo < 18446744073709551616) (h2 : hi < 18446744073709551616) (A : Option Addr) (c : Nat) (xs : List UInt8) (w : World) (hr : Rd bv w w.heap.size A c xs) (hl : xs.length ≤ 1000000) :
    Calls Tryd.prog 45 #[.agg #[.int .u64 lo, .int .u64 hi], .slice A xs.length c] w fun e w' => e = .returned (.int .u64 (sipN lo hi xs : Nat)) ∧ Below w.heap.size w w' := by
  have hlc := hr.len
  have hcc := hr.cap
  have x0 : bits BinOp.xor IntKind.u64 (lo : Int) 8317987319222330741 = ((lo ^^^ 8317987319222330741 : Nat) : Int) := u64_xor_nat lo 8317987319222330741 h1 (by omega)
  have x1 : bits BinOp.xor IntKind.u64 (hi : Int) 7237128888997146477 = ((hi ^^^ 7237128888997146477 : Nat) : Int) := u64_xor_nat hi 7237128888997146477 h2 (by omega)
  have x2 : bits BinOp.xor IntKind.u64 (lo : Int) 7816392313619706465 = ((lo ^^^ 7816392313619706465 : Nat) : Int) := u64_xor_nat lo 7816392313619706465 h1 (by omega)
  have x3 : bits BinOp.xor IntKind.u64 (hi : Int) 8387220255154660723 = ((hi ^^^ 8387220255154660723 : Nat) : Int) := u64_xor_nat hi 8387220255154660723 h2 (by omega)
  have hsf := sinit_fine lo hi h1 h2
  have HS0 : Hid (sinit lo hi = (lo ^^^ 8317987319222330741, hi ^^^ 7237128888997146477, lo ^^^ 7816392313619706465, hi ^^^ 8387220255154660723)) := rfl
  generalize lo ^^^ 8317987319222330741 = p0 at *
  generalize hi ^^^ 7237128888997146477 = p1 at *
  generalize lo ^^^ 7816392313619706465 = p2 at *
  generalize hi ^^^ 8387220255154660723 = p3 at *
  obtain ⟨q, hq⟩ : ∃ q, xs.length / 8 = q := ⟨_, rfl⟩
  have htd : (xs.length : Int).tdiv 8 = (q : Int) := by rw [Int.tdiv_eq_ediv_of_nonneg (by omega)]; omega
  have HSN : Hid (sipN lo hi xs = finish (absR (sinit lo hi) xs (q + 1))) := by
    rw [Hid, sipN, absR, absR_eq _ _ _ (by omega), ← hq, wnum_last]
  generalize sinit lo hi = s0 at *
  generalize sipN lo hi xs = R at *
  have hB := bnextA (bnextA (Below.refl w.heap.size w) (.cells #[.int .u64 lo, .int .u64 hi] 24)) (.cells #[.int .u64 (p0 : Int), .int .u64 (p1 : Int), .int .u64 (p2 : Int), .int .u64 (p3 : Int)] 94)
  have K0 : Blk ((w.alloc (.cells #[.int .u64 lo, .int .u64 hi] 24)).alloc (.cells #[.int .u64 (p0 : Int), .int .u64 (p1 : Int), .int .u64 (p2 : Int), .int .u64 (p3 : Int)] 94)) (w.heap.size + 1) (st s0) 94 := by
    have := Blk.new (w.alloc (.cells #[.int .u64 lo, .int .u64 hi] 24)) #[.int .u64 (p0 : Int), .int .u64 (p1 : Int), .int .u64 (p2 : Int), .int .u64 (p3 : Int)] 94
    rw [HS0.out]
    rw [show (w.alloc (.cells #[.int .u64 lo, .int .u64 hi] 24)).heap.size = w.heap.size + 1 by simp] at this
    exact this
  obtain ⟨z0, z1, -⟩ := (Blk.new w #[.int .u64 lo, .int .u64 hi] 24).get2
  have HQ := Lib.hid hq
  have hqb : q ≤ 125000 := by omega
  clear HS0 hq
  go_enter Tryd.func45, Tryd.ntmps45
  go_wp2_with fail
  clear z0 z1 x0 x1 x2 x3 htd
  generalize (w.alloc (.cells #[.int .u64 lo, .int .u64 hi] 24)).alloc (.cells #[.int .u64 (p0 : Int), .int .u64 (p1 : Int), .int .u64 (p2 : Int), .int .u64 (p3 : Int)] 94) = W1 at *
  have hgw : w.heap.size ≤ w.heap.size + 1 := Nat.le_succ _
  generalize w.heap.size + 1 = g at *
  have HK0 := Lib.hid K0
  clear K0
  go_loopw [7] (fun v wr => ∃ i : Nat, i ≤ q + 1 ∧ v = .int .i64 i ∧ Hid (Blk wr g (st (absR s0 xs i)) 94) ∧ Below w.heap.size w wr) (fun v _ => q + 1 - (intOf v).toNat)
  case atStart => exact ⟨0, by omega, rfl, HK0, hB⟩
  case round =>
    obtain ⟨i, hi, rfl, HK, hBr⟩ := hrel
    by_cases hlt : i < q + 1
    · have hiq : (i : Int) < (q : Int) + 1 := by omega
      go_wp2_with fail
      have HRr := Lib.hid (hr.next hBr)
      have hB3 := Lib.hid hBr
      have haf := Lib.hid (absR_fine s0 xs hsf i)
      have HST := Lib.hid (show absR s0 xs (i + 1) = takeF (absR s0 xs i) (wnum xs i 8) from rfl)
      have hN8 := Lib.hid (wnum64 xs i)
      have hq2 := HQ.out
      have hiq2 : i ≤ q := by omega
      clear hBr hcc hsf
      obtain ⟨S1, hS1⟩ : ∃ S1, absR s0 xs (i + 1) = S1 := ⟨_, rfl⟩
      have HS1 := Lib.hid hS1
      rw [hS1] at HST
      clear hS1
      generalize absR s0 xs i = S at *
      go_loopw [8, 9] (fun v k wz => ∃ r : Nat, r ≤ 8 ∧ v = .int .u64 (wnum xs i r : Nat) ∧ k = .int .i64 (7 - (r : Int)) ∧ wz = wr) (fun _ k _ => (intOf k + 1).toNat)
      case atStart => exact ⟨0, by omega, rfl, rfl, rfl⟩
      case round =>
        obtain ⟨r, hr8, rfl, rfl, rfl⟩ := hrel
        by_cases h8 : r < 8
        · obtain ⟨j, hj⟩ : ∃ j, 7 - r = j := ⟨_, rfl⟩
          have e1 : (7 : Int) - (r : Int) = (j : Int) := by omega
          have e2 : (j : Int) - 1 = 7 - ((r + 1 : Nat) : Int) := by omega
          have hj7 : j ≤ 7 := by omega
          have HW : Hid (wnum xs i (r + 1) = wnum xs i r * 256 + wbyte xs i j) := by rw [Hid, wnum, hj]
          have hwb := wbyte_lt xs i j
          have hnb : wnum xs i r < 72057594037927936 := Nat.lt_of_lt_of_le (wnum_lt xs i r) (Nat.pow_le_pow_right (n := 256) (by omega) (show r ≤ 7 by omega))
          rw [e1]
          obtain ⟨P, hP⟩ : ∃ P, 8 * i + j = P := ⟨_, rfl⟩
          have hPi : 8 * (i : Int) + (j : Int) = (P : Int) := by omega
          have hPb : P ≤ 1000007 := by omega
          have hres : Hid (wnum xs i r * 256 + wbyte xs i j = wnum xs i (r + 1)) := HW.out.symm
          have hend : ((wnum xs i (r + 1) : Nat) : Int) = (wnum xs i r : Int) * 256 + (wbyte xs i j : Int) := by rw [HW.out]; simp
          generalize wnum xs i r = n at *
          replace hend := Lib.hid hend
          have hj0 : (0 : Int) ≤ (j : Int) := by omega
          replace HQ := Lib.hid hq2
          by_cases hin : P < xs.length
          · obtain ⟨b, off, rfl, -, hcell⟩ := byt_at HRr.out (k := P) hin
            have k0 := hcell P hin
            have hxb : Hid (wbyte xs i j = xs[P].toNat) := by
              rw [Hid, wbyte, if_neg (by omega), hP, if_pos hin]
              simp [List.getD_eq_getElem?_getD, hin]
            have hx := (xs[P]).toNat_lt
            rw [hxb.out] at hend hwb
            generalize xs[P] = x at *
            have hPl : (P : Int) < (xs.length : Int) := by omega
            by_cases hl2 : i = q
            · have hj6 : ¬ j = 7 := by omega
              have hj6i : ¬ (j : Int) = 7 := by omega
              subst hl2
              clear hwb hr8 h8 hj hP hin hiq2 hlt hcell hq2 hres HW hxb HRr
              go_wp2_with fail
              go_roundw
              case rel => exact ⟨r + 1, by omega, by rw [hend.out], by congr 1 <;> omega, trivial⟩
              case measure => simp [intOf]; omega
            · have hl3 : ¬ (i : Int) = (q : Int) := by omega
              clear hwb hr8 h8 hj hP hin hiq2 hlt hcell hq2 hres HW hxb HRr
              go_wp2_with fail
              go_roundw
              case rel => exact ⟨r + 1, by omega, by rw [hend.out], by congr 1 <;> omega, trivial⟩
              case measure => simp [intOf]; omega
          · have hl2 : i = q := by omega
            subst hl2
            have hPl : ¬ (P : Int) < (xs.length : Int) := by omega
            by_cases hj6 : j = 7
            · have hxb : Hid (wbyte xs i j = xs.length % 256) := by rw [Hid, wbyte, if_pos ⟨by omega, hj6⟩]
              have ht : (xs.length : Int).tmod 256 = ((xs.length % 256 : Nat) : Int) := by rw [Int.tmod_eq_emod_of_nonneg (by omega)]; simp
              rw [hxb.out] at hend hwb
              generalize xs.length % 256 = m at *
              have hj6i : (j : Int) = 7 := by omega
              clear hr8 h8 hj hP hin hiq2 hlt hq2 hres HW hxb HRr
              go_wp2_with fail
              go_roundw
              case rel => exact ⟨r + 1, by omega, by rw [hend.out], by congr 1 <;> omega, trivial⟩
              case measure => simp [intOf]; omega
            · have hxb : Hid (wbyte xs i j = 0) := by rw [Hid, wbyte, if_neg (by omega), hP, if_neg hin]
              have hj6i : ¬ (j : Int) = 7 := by omega
              rw [hxb.out] at hend
              clear hwb hr8 h8 hj hP hin hiq2 hlt hq2 hres HW hxb HRr
              go_wp2_with fail
              go_roundw
              case rel => exact ⟨r + 1, by omega, by rw [hend.out]; simp, by congr 1 <;> omega, trivial⟩
              case measure => simp [intOf]; omega
        · have hr9 : r = 8 := by omega
          subst hr9
          clear hr8 h8 HRr
          rw [show (7 : Int) - ((8 : Nat) : Int) = -1 by omega]
          generalize wnum xs i 8 = N at *
          obtain ⟨a, b, c', d⟩ := S
          obtain ⟨la, lb, lc, ld⟩ := haf.out
          simp only at la lb lc ld
          have hN := hN8.out
          have K : Blk wr g [.int .u64 (a : Int), .int .u64 (b : Int), .int .u64 (c' : Int), .int .u64 (d : Int)] 94 := HK.out
          obtain ⟨z0, z1, z2, z3, y0, y1, y2, y3⟩ := K.get4
          have x7 : bits BinOp.xor IntKind.u64 (d : Int) (N : Int) = ((d ^^^ N : Nat) : Int) := u64_xor_nat d N ld hN
          have lx := xor64_lt d N ld hN
          have HFN : Hid (takeF (a, b, c', d) N = ((rnd (rnd (a, b, c', d ^^^ N))).1 ^^^ N, (rnd (rnd (a, b, c', d ^^^ N))).2)) := rfl
          generalize d ^^^ N = x at *
          have K2 : Blk (wr.setCell ⟨g, 3, none⟩ (.int .u64 (x : Int))) g (st (a, b, c', x)) 94 := K.set 3 _
          have hB4 := Lib.hid (hB3.out.setCell (p := ⟨g, 3, none⟩) hgw (.int .u64 (x : Int)))
          have hfx : fine (a, b, c', x) := ⟨la, lb, lc, lx⟩
          have HT1 := fun W => Lib.hid (rround_st (a, b, c', x) hfx W)
          have hf1 := rnd_fine _ hfx
          have HT2 := fun W => Lib.hid (rround_st (rnd (a, b, c', x)) hf1 W)
          have hf2 := rnd_fine _ hf1
          clear hfx haf HK K
          simp only at HT1
          go_wp2_with fail
          refine (HT1 _).out.mono ?_
          rintro e w3 ⟨rfl, hb3⟩
          have K3 := Lib.hid (K2.next hb3)
          have hB5 := Lib.hid (bnext hB4.out hb3)
          clear HT1 K2 hB4 hb3 z0 z1 z2 z3 y0 y1 y2 y3 x7
          go_wp2_with fail
          refine (HT2 _).out.mono ?_
          rintro e w4 ⟨rfl, hb4⟩
          have K4 := K3.out.next hb4
          have hB6 := bnext hB5.out hb4
          clear HT2 K3 hB5 hb4
          generalize rnd (rnd (a, b, c', x)) = t at *
          obtain ⟨e0, e1, e2, e3⟩ := t
          obtain ⟨l0, l1, l2, l3⟩ := hf2
          simp only at l0 l1 l2 l3
          have K5 : Blk w4 g [.int .u64 (a : Int), .int .u64 (b : Int), .int .u64 (c' : Int), .int .u64 (x : Int)] 94 := K4
          obtain ⟨z0, z1, z2, z3, y0, y1, y2, y3⟩ := K5.get4
          have x7 : bits BinOp.xor IntKind.u64 (e0 : Int) (N : Int) = ((e0 ^^^ N : Nat) : Int) := u64_xor_nat e0 N l0 hN
          replace K4 := Lib.hid K4
          replace hB6 := Lib.hid hB6
          clear K5 hf1
          simp only
          go_wp2_with fail
          go_roundw
          case rel =>
            refine ⟨i + 1, by omega, by simp, ?_, ((((hB6.out.setCell (p := ⟨g, 0, none⟩) hgw _).setCell (p := ⟨g, 1, none⟩) hgw _).setCell (p := ⟨g, 2, none⟩) hgw _).setCell (p := ⟨g, 3, none⟩) hgw _).setCell (p := ⟨g, 0, none⟩) hgw _⟩
            rw [Hid, HS1.out, HST.out, HFN.out]
            exact ((((K4.out.set 0 _).set 1 _).set 2 _).set 3 _).set 0 _
          case measure => simp [intOf]; omega
    · have hi1 : i = q + 1 := by omega
      subst hi1
      have haf := absR_fine s0 xs hsf (q + 1)
      clear hr hsf hlc hcc HQ
      generalize absR s0 xs (q + 1) = S at *
      obtain ⟨a, b, c', d⟩ := S
      obtain ⟨la, lb, lc, ld⟩ := haf
      simp only at la lb lc ld
      have K : Blk wr g [.int .u64 (a : Int), .int .u64 (b : Int), .int .u64 (c' : Int), .int .u64 (d : Int)] 94 := HK.out
      obtain ⟨z0, z1, z2, z3, y0, y1, y2, y3⟩ := K.get4
      have x7 : bits BinOp.xor IntKind.u64 (c' : Int) 255 = ((c' ^^^ 255 : Nat) : Int) := u64_xor_nat c' 255 lc (by omega)
      have lx := xor64_lt c' 255 lc (by omega)
      have HFN : Hid (finish (a, b, c', d) = ((((rndN (a, b, c' ^^^ 255, d) 4).1 ^^^ (rndN (a, b, c' ^^^ 255, d) 4).2.1) ^^^ (rndN (a, b, c' ^^^ 255, d) 4).2.2.1) ^^^ (rndN (a, b, c' ^^^ 255, d) 4).2.2.2)) := rfl
      generalize c' ^^^ 255 = x at *
      have K2 : Blk (wr.setCell ⟨g, 2, none⟩ (.int .u64 (x : Int))) g (st (a, b, x, d)) 94 := K.set 2 _
      have hB4 := Lib.hid (hBr.setCell (p := ⟨g, 2, none⟩) hgw (.int .u64 (x : Int)))
      have hfx : fine (a, b, x, d) := ⟨la, lb, lx, ld⟩
      have HT1 := fun W => Lib.hid (rround_st (a, b, x, d) hfx W)
      have hf1 := rnd_fine _ hfx
      have HT2 := fun W => Lib.hid (rround_st (rnd (a, b, x, d)) hf1 W)
      have hf2 := rnd_fine _ hf1
      have HT3 := fun W => Lib.hid (rround_st (rnd (rnd (a, b, x, d))) hf2 W)
      have hf3 := rnd_fine _ hf2
      have HT4 := fun W => Lib.hid (rround_st (rnd (rnd (rnd (a, b, x, d)))) hf3 W)
      have hf4 := rnd_fine _ hf3
      have HR4 : Hid (rndN (a, b, x, d) 4 = rnd (rnd (rnd (rnd (a, b, x, d))))) := rfl
      clear hfx HK K hBr hf1 hf2 hf3
      simp only at HT1
      go_wp2_with fail
      refine (HT1 _).out.mono ?_
      rintro e w3 ⟨rfl, hb3⟩
      have K3 := Lib.hid (K2.next hb3)
      have hB5 := Lib.hid (bnext hB4.out hb3)
      clear HT1 K2 hB4 hb3 z0 z1 z2 z3 y0 y1 y2 y3 x7
      go_wp2_with fail
      refine (HT2 _).out.mono ?_
      rintro e w4 ⟨rfl, hb4⟩
      have K4 := Lib.hid (K3.out.next hb4)
      have hB6 := Lib.hid (bnext hB5.out hb4)
      clear HT2 K3 hB5 hb4
      go_wp2_with fail
      refine (HT3 _).out.mono ?_
      rintro e w5 ⟨rfl, hb5⟩
      have K5 := Lib.hid (K4.out.next hb5)
      have hB7 := Lib.hid (bnext hB6.out hb5)
      clear HT3 K4 hB6 hb5
      go_wp2_with fail
      refine (HT4 _).out.mono ?_
      rintro e w6 ⟨rfl, hb6⟩
      have K6 := Lib.hid (K5.out.next hb6)
      have hB8 := Lib.hid (bnext hB7.out hb6)
      clear HT4 K5 hB7 hb6
      rw [HR4.out] at HFN
      clear HR4
      generalize rnd (rnd (rnd (rnd (a, b, x, d)))) = t at *
      obtain ⟨e0, e1, e2, e3⟩ := t
      obtain ⟨l0, l1, l2, l3⟩ := hf4
      simp only at l0 l1 l2 l3
      have K : Blk w6 g [.int .u64 (a : Int), .int .u64 (b : Int), .int .u64 (x : Int), .int .u64 (d : Int)] 94 := K6.out
      obtain ⟨z0, z1, z2, z3, y0, y1, y2, y3⟩ := K.get4
      have g1 : bits BinOp.xor IntKind.u64 (e0 : Int) (e1 : Int) = ((e0 ^^^ e1 : Nat) : Int) := u64_xor_nat _ _ l0 l1
      have m1 := xor64_lt _ _ l0 l1
      have g2 : bits BinOp.xor IntKind.u64 ((e0 ^^^ e1 : Nat) : Int) (e2 : Int) = ((e0 ^^^ e1 ^^^ e2 : Nat) : Int) := u64_xor_nat _ _ m1 l2
      have m2 := xor64_lt _ _ m1 l2
      have g3 : bits BinOp.xor IntKind.u64 ((e0 ^^^ e1 ^^^ e2 : Nat) : Int) (e3 : Int) = ((e0 ^^^ e1 ^^^ e2 ^^^ e3 : Nat) : Int) := u64_xor_nat _ _ m2 l3
      have HRR : Hid (R = e0 ^^^ e1 ^^^ e2 ^^^ e3) := by rw [Hid, HSN.out, HFN.out]
      clear m1 m2 l0 l1 l2 l3 HSN HFN K
      generalize e0 ^^^ e1 ^^^ e2 ^^^ e3 = r3 at *
      generalize e0 ^^^ e1 ^^^ e2 = r2 at *
      generalize e0 ^^^ e1 = r1 at *
      simp only
      go_wp2_with fail
      go_ret
      exact ⟨by rw [HRR.out]; rfl, (((hB8.out.setCell (p := ⟨g, 0, none⟩) hgw _).setCell (p := ⟨g, 1, none⟩) hgw _).setCell (p := ⟨g, 2, none⟩) hgw _).setCell (p := ⟨g, 3, none⟩) hgw _⟩
end Go.Proofs.YteodjajjlgekcaaDoor
