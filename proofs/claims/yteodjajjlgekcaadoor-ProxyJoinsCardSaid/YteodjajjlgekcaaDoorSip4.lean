/- Contract of sip.Sum. -/
import Derived.Test.YteodjajjlgekcaaDoorSip3
namespace Go.Proofs.YteodjajjlgekcaaDoor
open Go.RowKit

def sinit (lo hi : Nat) : Four := (lo ^^^ 8317987319222330741, hi ^^^ 7237128888997146477, lo ^^^ 7816392313619706465, hi ^^^ 8387220255154660723)
/-- The state behind so many words. -/
def absorb (s : Four) (xs : List UInt8) : Nat → Four
  | 0 => s
  | j + 1 => takeF (absorb s xs j) (numLE ((xs.drop (8 * j)).take 8))
def lastW (xs : List UInt8) : Nat := xs.length % 256 * 72057594037927936 + numLE (xs.drop (8 * (xs.length / 8)))
def finish (s : Four) : Nat :=
  ((((rndN (s.1, s.2.1, s.2.2.1 ^^^ 255, s.2.2.2) 4).1 ^^^ (rndN (s.1, s.2.1, s.2.2.1 ^^^ 255, s.2.2.2) 4).2.1) ^^^ (rndN (s.1, s.2.1, s.2.2.1 ^^^ 255, s.2.2.2) 4).2.2.1) ^^^ (rndN (s.1, s.2.1, s.2.2.1 ^^^ 255, s.2.2.2) 4).2.2.2)
/-- The sum of bytes by a key. -/
def sipN (lo hi : Nat) (xs : List UInt8) : Nat := finish (takeF (absorb (sinit lo hi) xs (xs.length / 8)) (lastW xs))
theorem num8_lt (l : List UInt8) (h : l.length ≤ 8) : numLE l < 18446744073709551616 := Nat.lt_of_lt_of_le (numLE_lt l) (Nat.pow_le_pow_right (by omega) h)
theorem sinit_fine (lo hi : Nat) (h1 : lo < 18446744073709551616) (h2 : hi < 18446744073709551616) : fine (sinit lo hi) :=
  ⟨xor64_lt _ _ h1 (by omega), xor64_lt _ _ h2 (by omega), xor64_lt _ _ h1 (by omega), xor64_lt _ _ h2 (by omega)⟩
theorem absorb_fine (s : Four) (xs : List UInt8) (h : fine s) (j : Nat) : fine (absorb s xs j) := by
  induction j with
  | zero => exact h
  | succ j ih => exact takeF_fine _ _ ih (num8_lt _ (by simp; omega))
theorem tail_lt (xs : List UInt8) : numLE (xs.drop (8 * (xs.length / 8))) < 72057594037927936 := by
  have h := numLE_lt (xs.drop (8 * (xs.length / 8)))
  have h2 : (xs.drop (8 * (xs.length / 8))).length ≤ 7 := by simp; omega
  exact Nat.lt_of_lt_of_le h (Nat.pow_le_pow_right (n := 256) (by omega) h2)
theorem lastW_lt (xs : List UInt8) : lastW xs < 18446744073709551616 := by
  have := tail_lt xs
  unfold lastW
  omega
theorem last_or (q n : Nat) (hq : q < 256) (hn : n < 72057594037927936) : bits BinOp.or IntKind.u64 ((q * 72057594037927936 : Nat) : Int) (n : Int) = ((q * 72057594037927936 + n : Nat) : Int) := by
  rw [u64_or_nat _ _ (by omega) (by omega), show q * 72057594037927936 = q <<< 56 from (Nat.shiftLeft_eq q 56).symm, ← Nat.shiftLeft_add_eq_or_of_lt (show n < 2 ^ 56 from hn)]
theorem finish_lt (s : Four) (h : fine s) : finish s < 18446744073709551616 := by
  obtain ⟨h1, h2, h3, h4⟩ := h
  obtain ⟨g1, g2, g3, g4⟩ := rndN_fine (s.1, s.2.1, s.2.2.1 ^^^ 255, s.2.2.2) ⟨h1, h2, xor64_lt _ _ h3 (by omega), h4⟩ 4
  exact xor64_lt _ _ (xor64_lt _ _ (xor64_lt _ _ g1 g2) g3) g4
theorem sipN_lt (lo hi : Nat) (xs : List UInt8) (h1 : lo < 18446744073709551616) (h2 : hi < 18446744073709551616) : sipN lo hi xs < 18446744073709551616 := finish_lt _ (takeF_fine _ _ (absorb_fine _ _ (sinit_fine _ _ h1 h2) _) (lastW_lt xs))
def lenV (v : Value) : Nat := match v with
  | .slice _ n _ => n
  | _ => 0
set_option maxHeartbeats 4000000 in
theorem sum_sip (lo hi : Nat) (h1 : lo < 18446744073709551616) (h2 : hi < 18446744073709551616) (A : Option Addr) (c : Nat) (xs : List UInt8) (w : World) (hr : Rd bv w w.heap.size A c xs) (hl : xs.length ≤ 1000000) :
    Calls Tryd.prog 41 #[.agg #[.int .u64 lo, .int .u64 hi], .slice A xs.length c] w fun e w' => e = .returned (.int .u64 (sipN lo hi xs : Nat)) ∧ Below w.heap.size w w' := by
  have hlc := hr.len
  have hcc := hr.cap
  obtain ⟨i0, hi0, hz0, hz1, hz2⟩ := info_parts info_u8
  have x0 : bits BinOp.xor IntKind.u64 (lo : Int) 8317987319222330741 = ((lo ^^^ 8317987319222330741 : Nat) : Int) := u64_xor_nat lo 8317987319222330741 h1 (by omega)
  have x1 : bits BinOp.xor IntKind.u64 (hi : Int) 7237128888997146477 = ((hi ^^^ 7237128888997146477 : Nat) : Int) := u64_xor_nat hi 7237128888997146477 h2 (by omega)
  have x2 : bits BinOp.xor IntKind.u64 (lo : Int) 7816392313619706465 = ((lo ^^^ 7816392313619706465 : Nat) : Int) := u64_xor_nat lo 7816392313619706465 h1 (by omega)
  have x3 : bits BinOp.xor IntKind.u64 (hi : Int) 8387220255154660723 = ((hi ^^^ 8387220255154660723 : Nat) : Int) := u64_xor_nat hi 8387220255154660723 h2 (by omega)
  have hsf := sinit_fine lo hi h1 h2
  have HS0 : Hid (sinit lo hi = (lo ^^^ 8317987319222330741, hi ^^^ 7237128888997146477, lo ^^^ 7816392313619706465, hi ^^^ 8387220255154660723)) := rfl
  generalize lo ^^^ 8317987319222330741 = p0 at *
  generalize hi ^^^ 7237128888997146477 = p1 at *
  generalize lo ^^^ 7816392313619706465 = p2 at *
  generalize hi ^^^ 8387220255154660723 = p3 at *
  have ht : (xs.length : Int).tmod 256 = ((xs.length % 256 : Nat) : Int) := by rw [Int.tmod_eq_emod_of_nonneg (by omega)]; simp
  have hq : xs.length % 256 < 256 := Nat.mod_lt _ (by omega)
  have HLW : Hid (lastW xs = xs.length % 256 * 72057594037927936 + numLE (xs.drop (8 * (xs.length / 8)))) := rfl
  have htl := tail_lt xs
  have hOR := Lib.hid (last_or (xs.length % 256) _ hq htl)
  have hwl := Lib.hid (lastW_lt xs)
  have h56 : ∀ q : Nat, q < 256 → IntKind.u64.wrap ((q : Int) * 72057594037927936) = ((q * 72057594037927936 : Nat) : Int) := fun q h => by rw [wrap_u64s]; omega
  have h56b := h56 _ hq
  have hqw : IntKind.u64.wrap ((xs.length % 256 : Nat) : Int) = ((xs.length % 256 : Nat) : Int) := by rw [wrap_u64s]; omega
  have HSN : Hid (sipN lo hi xs = finish (takeF (absorb (sinit lo hi) xs (xs.length / 8)) (lastW xs))) := rfl
  generalize sinit lo hi = s0 at *
  generalize sipN lo hi xs = R at *
  obtain ⟨LW, hLW⟩ : ∃ n, lastW xs = n := ⟨_, rfl⟩
  rw [hLW] at HLW hwl HSN
  rw [← HLW.out] at hOR
  clear HLW hLW h56
  generalize xs.length % 256 = q at *
  have hB := bnextA (bnextA (Below.refl w.heap.size w) (.cells #[.int .u64 lo, .int .u64 hi] 24)) (.cells #[.int .u64 (p0 : Int), .int .u64 (p1 : Int), .int .u64 (p2 : Int), .int .u64 (p3 : Int)] 90)
  have K0 : Blk ((w.alloc (.cells #[.int .u64 lo, .int .u64 hi] 24)).alloc (.cells #[.int .u64 (p0 : Int), .int .u64 (p1 : Int), .int .u64 (p2 : Int), .int .u64 (p3 : Int)] 90)) (w.heap.size + 1) (st s0) 90 := by
    have := Blk.new (w.alloc (.cells #[.int .u64 lo, .int .u64 hi] 24)) #[.int .u64 (p0 : Int), .int .u64 (p1 : Int), .int .u64 (p2 : Int), .int .u64 (p3 : Int)] 90
    rw [HS0.out]
    rw [show (w.alloc (.cells #[.int .u64 lo, .int .u64 hi] 24)).heap.size = w.heap.size + 1 by simp] at this
    exact this
  obtain ⟨z0, z1, -⟩ := (Blk.new w #[.int .u64 lo, .int .u64 hi] 24).get2
  clear HS0
  go_enter Tryd.func41, Tryd.ntmps41
  go_wp2_with fail
  clear z0 z1 x0 x1 x2 x3 ht h56b hqw
  generalize (w.alloc (.cells #[.int .u64 lo, .int .u64 hi] 24)).alloc (.cells #[.int .u64 (p0 : Int), .int .u64 (p1 : Int), .int .u64 (p2 : Int), .int .u64 (p3 : Int)] 90) = W1 at *
  have hgw : w.heap.size ≤ w.heap.size + 1 := Nat.le_succ _
  generalize w.heap.size + 1 = g at *
  have HK0 := Lib.hid K0
  have HR0 := Lib.hid hr
  have hwl2 := hl
  have HSL := Lib.hid hl
  clear K0 hr hwl2 hl hlc
  go_loopw [1] (fun v wr => ∃ (k : Nat) (Y : List UInt8) (A2 : Option Addr) (c2 : Nat), 8 * k ≤ xs.length ∧ Hid (Y = xs.drop (8 * k)) ∧ v = .slice A2 Y.length c2 ∧ Hid (Rd bv w w.heap.size A2 c2 Y) ∧ Hid (Blk wr g (st (absorb s0 xs k)) 90) ∧ Below w.heap.size w wr) (fun v _ => lenV v)
  case atStart => exact ⟨0, xs, A, c, by omega, rfl, rfl, HR0, HK0, hB⟩
  case round =>
    obtain ⟨k, Y, A2, c2, hk, HY, rfl, HRY, HKY, hBr⟩ := hrel
    have hYl : Hid (Y.length = xs.length - 8 * k) := by rw [Hid, HY.out]; simp
    have hlc2 := HRY.out.len
    have hcc2 := HRY.out.cap
    by_cases hlt : 8 ≤ Y.length
    · have HST := Lib.hid (show absorb s0 xs (k + 1) = takeF (absorb s0 xs k) (numLE ((xs.drop (8 * k)).take 8)) from rfl)
      rw [← HY.out] at HST
      have haf := Lib.hid (absorb_fine s0 xs hsf k)
      obtain ⟨A3, c3, hr3, hsl3⟩ := HRY.out.slice_l Tryd.underlying42 hi0 hz1 8 8 rfl hlt
      have HR3 := Lib.hid hr3
      obtain ⟨L8, hL8⟩ : ∃ L, Y.take 8 = L := ⟨_, rfl⟩
      have l8 : L8.length = 8 := by rw [← hL8]; simp; omega
      have r8 := fun W (h : Below w.heap.size w W) => (HRY.out.next h).take 8
      rw [hL8] at r8 HST
      have hn8 := Lib.hid (num8_lt L8 (by omega))
      have HN : ∀ W, Below w.heap.size w W → Hid (Calls Tryd.prog 60 #[.slice A2 8 c2] W fun e w' => e = .returned (.int .u64 (numLE L8 : Nat)) ∧ W = w') := fun W h => by
        have := num_any A2 c2 L8 W _ (r8 W h) (by omega)
        rw [l8] at this
        exact this
      have HT := fun W (h : Blk W g (st (absorb s0 xs k)) 90) => Lib.hid (take_sip g (numLE L8) (absorb s0 xs k) haf.out hn8.out W h w.heap.size hgw)
      have hge : (8 : Int) ≤ (Y.length : Int) := by omega
      have hc8 : (8 : Int) ≤ (c2 : Int) := by omega
      have hD : Hid ((Y.drop 8).length = Y.length - 8) := by rw [Hid]; simp
      clear hr3 HRY r8 hL8 l8 hlc2 hcc2
      generalize absorb s0 xs k = S at *
      generalize numLE L8 = N8 at *
      go_wp2_with fail
      refine (HN _ hBr).out.mono ?_
      rintro e wz ⟨rfl, rfl⟩
      go_wp2_with fail
      refine (HT _ HKY.out).out.mono ?_
      rintro e w2 ⟨rfl, hK2, hb⟩
      go_wp2_with fail
      go_roundw
      case rel =>
        have hy := hYl.out
        refine ⟨k + 1, Y.drop 8, A3, c3, by omega, ?_, by rw [hD.out], HR3, ?_, hBr.trans hb⟩
        · rw [Hid, HY.out, List.drop_drop]
          rfl
        · rw [Hid, HST.out]
          exact hK2
      case measure => simp [lenV]; omega
    · have hy := hYl.out
      have hkq : xs.length / 8 = k := by omega
      rw [hkq, ← HY.out] at hOR htl
      rw [hkq] at HSN
      have haf := absorb_fine s0 xs hsf k
      have HTF := Lib.hid (takeF_fine _ _ haf hwl.out)
      have HN := Lib.hid (num_any A2 c2 Y wr _ (HRY.out.next hBr) (by omega))
      have HT := fun W (h : Blk W g (st (absorb s0 xs k)) 90) => Lib.hid (take_sip g LW (absorb s0 xs k) haf hwl.out W h w.heap.size hgw)
      have hlt8 : ¬ (8 : Int) ≤ (Y.length : Int) := by omega
      clear haf HRY hYl hy hlt hkq hlc2 hcc2 hsf
      generalize absorb s0 xs k = S at *
      generalize numLE Y = NY at *
      have hor : bits BinOp.or IntKind.u64 ((q : Int) * 72057594037927936) (NY : Int) = (LW : Int) := by
        have := hOR.out
        rw [Int.natCast_mul] at this
        exact this
      go_wp2_with fail
      refine HN.out.mono ?_
      rintro e wz ⟨rfl, rfl⟩
      go_wp2_with fail
      refine (HT _ HKY.out).out.mono ?_
      rintro e w2 ⟨rfl, hK2, hb⟩
      have hB2 := hBr.trans hb
      clear hb HT HKY HN hBr hor hOR
      generalize takeF S LW = T at *
      obtain ⟨a, b, c', d⟩ := T
      obtain ⟨la, lb, lc, ld⟩ := HTF.out
      simp only at la lb lc ld
      have K : Blk w2 g [.int .u64 (a : Int), .int .u64 (b : Int), .int .u64 (c' : Int), .int .u64 (d : Int)] 90 := hK2
      obtain ⟨z0, z1, z2, z3, y0, y1, y2, y3⟩ := K.get4
      have x7 : bits BinOp.xor IntKind.u64 (c' : Int) 255 = ((c' ^^^ 255 : Nat) : Int) := u64_xor_nat c' 255 lc (by omega)
      have lx := xor64_lt c' 255 lc (by omega)
      have HFN : Hid (finish (a, b, c', d) = ((((rndN (a, b, c' ^^^ 255, d) 4).1 ^^^ (rndN (a, b, c' ^^^ 255, d) 4).2.1) ^^^ (rndN (a, b, c' ^^^ 255, d) 4).2.2.1) ^^^ (rndN (a, b, c' ^^^ 255, d) 4).2.2.2)) := rfl
      generalize c' ^^^ 255 = x at *
      have K2 : Blk (w2.setCell ⟨g, 2, none⟩ (.int .u64 (x : Int))) g (st (a, b, x, d)) 90 := K.set 2 _
      replace hB2 := hB2.setCell (p := ⟨g, 2, none⟩) hgw (.int .u64 (x : Int))
      have hfx : fine (a, b, x, d) := ⟨la, lb, lx, ld⟩
      have HT4 := fun W (h : Blk W g (st (a, b, x, d)) 90) => Lib.hid (turn_sip g 4 (a, b, x, d) hfx (by omega) W h w.heap.size hgw)
      have hf4 := rndN_fine _ hfx 4
      clear hfx hK2 K
      go_wp2_with fail
      refine (HT4 _ K2).out.mono ?_
      rintro e w3 ⟨rfl, hK3, hb⟩
      have hB3 := hB2.trans hb
      clear hb HT4 K2 hB2 z0 z1 z2 z3 y0 y1 y2 y3 x7
      generalize rndN (a, b, x, d) 4 = t at *
      obtain ⟨e0, e1, e2, e3⟩ := t
      obtain ⟨l0, l1, l2, l3⟩ := hf4
      simp only at l0 l1 l2 l3
      have K : Blk w3 g [.int .u64 (e0 : Int), .int .u64 (e1 : Int), .int .u64 (e2 : Int), .int .u64 (e3 : Int)] 90 := hK3
      obtain ⟨z0, z1, z2, z3, -⟩ := K.get4
      have g1 : bits BinOp.xor IntKind.u64 (e0 : Int) (e1 : Int) = ((e0 ^^^ e1 : Nat) : Int) := u64_xor_nat _ _ l0 l1
      have m1 := xor64_lt _ _ l0 l1
      have g2 : bits BinOp.xor IntKind.u64 ((e0 ^^^ e1 : Nat) : Int) (e2 : Int) = ((e0 ^^^ e1 ^^^ e2 : Nat) : Int) := u64_xor_nat _ _ m1 l2
      have m2 := xor64_lt _ _ m1 l2
      have g3 : bits BinOp.xor IntKind.u64 ((e0 ^^^ e1 ^^^ e2 : Nat) : Int) (e3 : Int) = ((e0 ^^^ e1 ^^^ e2 ^^^ e3 : Nat) : Int) := u64_xor_nat _ _ m2 l3
      have HRR : Hid (R = e0 ^^^ e1 ^^^ e2 ^^^ e3) := by rw [Hid, HSN.out, HFN.out]
      clear m1 m2 l0 l1 l2 l3 HSN HFN hK3 K
      generalize e0 ^^^ e1 ^^^ e2 ^^^ e3 = r3 at *
      generalize e0 ^^^ e1 ^^^ e2 = r2 at *
      generalize e0 ^^^ e1 = r1 at *
      go_wp2_with fail
      go_ret
      exact ⟨by rw [HRR.out]; rfl, hB3⟩
end Go.Proofs.YteodjajjlgekcaaDoor
