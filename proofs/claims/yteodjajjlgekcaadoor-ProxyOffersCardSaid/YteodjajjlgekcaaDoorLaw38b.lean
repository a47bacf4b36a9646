/- The walk of the statement on offers. -/
import Derived.Test.YteodjajjlgekcaaDoorPx3
namespace Go.Proofs.YteodjajjlgekcaaDoor
open Go.RowKit
set_option linter.unusedVariables false

set_option maxHeartbeats 4000000 in
theorem ProxyOffers_w (lo hi lo2 hi2 : Nat) (h1 : lo < 18446744073709551616) (h2 : hi < 18446744073709551616) (h3 : lo2 < 18446744073709551616) (h4 : hi2 < 18446744073709551616) (ep : Int) (s d : UInt32) (p q : UInt16) (r : UInt8) (sa sb : UInt16) (sq sk : UInt32) (sr sf : UInt8) (sz su : UInt16) (A1 A2 : Option Addr) (n1 c1 n2 c2 : Nat) (hep : ep ≤ 9223372036854775807) (os xs : List UInt8) (hol : os.length ≤ 50) (w : World) (hS : SZ w) (ho0 : Rd bv w w.heap.size A1 c1 os) (hlc : n1 ≤ c1) (hcc : c1 ≤ 9223372036854775807) (hlc2 : n2 ≤ c2) (hcc2 : c2 ≤ 9223372036854775807) (hm : Hid (min n1 50 = os.length)) (hm2 : Hid (min n2 200 = xs.length)) :
    Calls Tryd.prog 6 #[.agg #[.int .u64 (lo : Int), .int .u64 (hi : Int), .int .u64 (lo2 : Int), .int .u64 (hi2 : Int), .int .i64 ep], .agg #[.int .u32 (s.toNat : Int), .int .u32 (d.toNat : Int), .int .u16 (p.toNat : Int), .int .u16 (q.toNat : Int), .int .u8 (r.toNat : Int)], .agg #[.int .u16 (sa.toNat : Int), .int .u16 (sb.toNat : Int), .int .u32 (sq.toNat : Int), .int .u32 (sk.toNat : Int), .int .u8 (sr.toNat : Int), .int .u8 (sf.toNat : Int), .int .u16 (sz.toNat : Int), .int .u16 (su.toNat : Int), .slice A1 n1 c1, .slice A2 n2 c2]] w fun e w' => e = .returned (.bool true) ∧ Below w.heap.size w w' := by
  have HF := fun W => Lib.hid (tfew_any sa sb sq sk sr sf sz su A1 A2 n1 c1 n2 c2 os.length xs.length W hlc hcc hlc2 hcc2 hm hm2)
  obtain ⟨R, hR⟩ := runs_some os os.length 0 [] (by omega)
  obtain ⟨ix, hio⟩ : ∃ ix, offI (mssN R.1) = ix := ⟨_, rfl⟩
  have hi8 : ix < 8 := by rw [← hio]; exact offI_lt _
  obtain ⟨vv, hvv⟩ : ∃ vv : UInt32, ckN lo hi (ckB s d p q r sq) (ckR ep 32) ix = vv.toNat := ⟨UInt32.ofNat (ckN lo hi (ckB s d p q r sq) (ckR ep 32) ix), by have := ckN_lt lo hi (ckB s d p q r sq) (ckR ep 32) ix (Nat.mod_lt _ (by decide)) hi8; simp; omega⟩
  obtain ⟨sq1, hs1, -⟩ := u32_succ sq
  have HO : ∀ W, Rd bv W W.heap.size A1 c1 os → SZ W → Hid (Calls Tryd.prog 26 #[.agg #[.int .u64 (lo : Int), .int .u64 (hi : Int), .int .u64 (lo2 : Int), .int .u64 (hi2 : Int), .int .i64 ep], .agg #[.int .u32 (s.toNat : Int), .int .u32 (d.toNat : Int), .int .u16 (p.toNat : Int), .int .u16 (q.toNat : Int), .int .u8 (r.toNat : Int)], .agg #[.int .u16 (sa.toNat : Int), .int .u16 (sb.toNat : Int), .int .u32 (sq.toNat : Int), .int .u32 (sk.toNat : Int), .int .u8 (sr.toNat : Int), .int .u8 (sf.toNat : Int), .int .u16 (sz.toNat : Int), .int .u16 (su.toNat : Int), .slice A1 os.length c1, .slice A2 xs.length c2]] W fun e w' => ∃ L A c M B d, e = .returned (.agg #[.int .u16 (q.toNat : Int), .int .u16 (p.toNat : Int), .int .u32 (vv.toNat : Int), .int .u32 (sq1.toNat : Int), .int .u8 0, .int .u8 18, .int .u16 65535, .int .u16 0, .slice A L.length c, .slice B M.length d]) ∧ Hid (L = [2, 4] ++ be16 (szU ix)) ∧ Hid (M = []) ∧ Rd bv w' w'.heap.size A c L ∧ Rd bv w' w'.heap.size B d M ∧ Below W.heap.size W w') := fun W h hs =>
    (poffer_any lo hi lo2 hi2 h1 h2 ep s d p q r sa sb sq sk sr sf sz su A1 A2 os c1 xs.length c2 R hR (by omega) ix hio vv hvv sq1 hs1 W h hs).mono fun e w' he => by
      obtain ⟨L, A, c, rfl, HL, hr, hb⟩ := he
      exact ⟨L, A, c, [], none, 0, rfl, HL, rfl, hr, Rd.nil0 _ _ _, hb⟩
  have HRO : ∀ W, Rd bv W W.heap.size A1 c1 os → Hid (Calls Tryd.prog 27 #[.agg #[.int .u64 (lo : Int), .int .u64 (hi : Int), .int .u64 (lo2 : Int), .int .u64 (hi2 : Int), .int .i64 ep], .agg #[.int .u32 (s.toNat : Int), .int .u32 (d.toNat : Int), .int .u16 (p.toNat : Int), .int .u16 (q.toNat : Int), .int .u8 (r.toNat : Int)], .agg #[.int .u16 (sa.toNat : Int), .int .u16 (sb.toNat : Int), .int .u32 (sq.toNat : Int), .int .u32 (sk.toNat : Int), .int .u8 (sr.toNat : Int), .int .u8 (sf.toNat : Int), .int .u16 (sz.toNat : Int), .int .u16 (su.toNat : Int), .slice A1 os.length c1, .slice A2 xs.length c2]] W fun e w' => ∃ L A c M B d, e = .returned (.agg #[.int .u16 (q.toNat : Int), .int .u16 (p.toNat : Int), .int .u32 (vv.toNat : Int), .int .u32 (sq1.toNat : Int), .int .u8 0, .int .u8 18, .int .u16 65535, .int .u16 0, .slice A L.length c, .slice B M.length d]) ∧ Hid (L = [2, 4] ++ be16 (szU ix)) ∧ Hid (M = []) ∧ Rd bv w' w'.heap.size A c L ∧ Rd bv w' w'.heap.size B d M ∧ Below W.heap.size W w') := fun W h =>
    (roffer_any lo hi lo2 hi2 h1 h2 ep s d p q r sa sb sq sk sr sf sz su A1 A2 os c1 xs.length c2 R hR (by omega) ix hio vv hvv sq1 hs1 W h).mono fun e w' he => by
      obtain ⟨L, A, c, rfl, HL, hr, hb⟩ := he
      exact ⟨L, A, c, [], none, 0, rfl, HL, rfl, hr, Rd.nil0 _ _ _, hb⟩
  generalize szU ix = z at HO HRO
  obtain ⟨I, b, HA1, HA2⟩ := accept_both lo hi lo2 hi2 h1 h2 h3 h4 ep s d p q r sa sb sq sk sr sf sz su A1 A2 os.length c1 xs.length c2 hep
  have HSM : ∀ W L3 A3 c3 M3 B3 d3 L7 A7 c7 M7 B7 d7, Rd bv W W.heap.size A3 c3 L3 → Rd bv W W.heap.size B3 d3 M3 → Rd bv W W.heap.size A7 c7 L7 → Rd bv W W.heap.size B7 d7 M7 → L7 = L3 → M7 = M3 → Hid (Calls Tryd.prog 25 #[.agg #[.int .u16 (q.toNat : Int), .int .u16 (p.toNat : Int), .int .u32 (vv.toNat : Int), .int .u32 (sq1.toNat : Int), .int .u8 0, .int .u8 18, .int .u16 65535, .int .u16 0, .slice A3 L3.length c3, .slice B3 M3.length d3], .agg #[.int .u16 (q.toNat : Int), .int .u16 (p.toNat : Int), .int .u32 (vv.toNat : Int), .int .u32 (sq1.toNat : Int), .int .u8 0, .int .u8 18, .int .u16 65535, .int .u16 0, .slice A7 L7.length c7, .slice B7 M7.length d7]] W fun e w' => e = .returned (.bool true) ∧ Below W.heap.size W w') := by
    intro W L3 A3 c3 M3 B3 d3 L7 A7 c7 M7 B7 d7 g1 g2 g3 g4 g5 g6
    obtain ⟨z8, ez8⟩ : ∃ x : UInt8, (x.toNat : Int) = 0 := ⟨0, rfl⟩
    obtain ⟨z16, ez16⟩ : ∃ x : UInt16, (x.toNat : Int) = 0 := ⟨0, rfl⟩
    obtain ⟨x18, ex18⟩ : ∃ x : UInt8, (x.toNat : Int) = 18 := ⟨18, rfl⟩
    obtain ⟨xff, exff⟩ : ∃ x : UInt16, (x.toNat : Int) = 65535 := ⟨65535, rfl⟩
    have h5 := tsame_yes q p vv sq1 z8 x18 xff z16 A3 B3 A7 B7 c3 d3 c7 d7 L3 M3 L7 M7 W g1 g2 g3 g4 g5 g6
    simp only [ez8, ez16, ex18, exff] at h5
    exact h5
  clear hlc hcc hm hlc2 hcc2 hm2 hR hio hi8 hvv hs1 h1 h2 h3 h4 hol hep
  obtain ⟨V, hV⟩ : ∃ V, V = (((w.alloc (.cells #[.int .u64 (lo : Int), .int .u64 (hi : Int), .int .u64 (lo2 : Int), .int .u64 (hi2 : Int), .int .i64 ep] 36)).alloc (.cells #[.int .u32 (s.toNat : Int), .int .u32 (d.toNat : Int), .int .u16 (p.toNat : Int), .int .u16 (q.toNat : Int), .int .u8 (r.toNat : Int)] 28)).alloc (.cells #[.int .u16 (sa.toNat : Int), .int .u16 (sb.toNat : Int), .int .u32 (sq.toNat : Int), .int .u32 (sk.toNat : Int), .int .u8 (sr.toNat : Int), .int .u8 (sf.toNat : Int), .int .u16 (sz.toNat : Int), .int .u16 (su.toNat : Int), .slice A1 n1 c1, .slice A2 n2 c2] 44)) := ⟨_, rfl⟩
  have hB : Below w.heap.size w V := by subst hV; exact (bnextA (bnextA (bnextA (Below.refl _ _) _) _) _)
  have KS : Blk V (w.heap.size) [.int .u64 (lo : Int), .int .u64 (hi : Int), .int .u64 (lo2 : Int), .int .u64 (hi2 : Int), .int .i64 ep] 36 := by subst hV; simpa using ((Blk.new w #[.int .u64 (lo : Int), .int .u64 (hi : Int), .int .u64 (lo2 : Int), .int .u64 (hi2 : Int), .int .i64 ep] 36).alloc (.cells #[.int .u32 (s.toNat : Int), .int .u32 (d.toNat : Int), .int .u16 (p.toNat : Int), .int .u16 (q.toNat : Int), .int .u8 (r.toNat : Int)] 28)).alloc (.cells #[.int .u16 (sa.toNat : Int), .int .u16 (sb.toNat : Int), .int .u32 (sq.toNat : Int), .int .u32 (sk.toNat : Int), .int .u8 (sr.toNat : Int), .int .u8 (sf.toNat : Int), .int .u16 (sz.toNat : Int), .int .u16 (su.toNat : Int), .slice A1 n1 c1, .slice A2 n2 c2] 44)
  have KF : Blk V (w.heap.size + 1) [.int .u32 (s.toNat : Int), .int .u32 (d.toNat : Int), .int .u16 (p.toNat : Int), .int .u16 (q.toNat : Int), .int .u8 (r.toNat : Int)] 28 := by subst hV; simpa using (Blk.new (w.alloc (.cells #[.int .u64 (lo : Int), .int .u64 (hi : Int), .int .u64 (lo2 : Int), .int .u64 (hi2 : Int), .int .i64 ep] 36)) #[.int .u32 (s.toNat : Int), .int .u32 (d.toNat : Int), .int .u16 (p.toNat : Int), .int .u16 (q.toNat : Int), .int .u8 (r.toNat : Int)] 28).alloc (.cells #[.int .u16 (sa.toNat : Int), .int .u16 (sb.toNat : Int), .int .u32 (sq.toNat : Int), .int .u32 (sk.toNat : Int), .int .u8 (sr.toNat : Int), .int .u8 (sf.toNat : Int), .int .u16 (sz.toNat : Int), .int .u16 (su.toNat : Int), .slice A1 n1 c1, .slice A2 n2 c2] 44)
  have KG : Blk V (w.heap.size + 2) [.int .u16 (sa.toNat : Int), .int .u16 (sb.toNat : Int), .int .u32 (sq.toNat : Int), .int .u32 (sk.toNat : Int), .int .u8 (sr.toNat : Int), .int .u8 (sf.toNat : Int), .int .u16 (sz.toNat : Int), .int .u16 (su.toNat : Int), .slice A1 n1 c1, .slice A2 n2 c2] 44 := by subst hV; simpa using Blk.new ((w.alloc (.cells #[.int .u64 (lo : Int), .int .u64 (hi : Int), .int .u64 (lo2 : Int), .int .u64 (hi2 : Int), .int .i64 ep] 36)).alloc (.cells #[.int .u32 (s.toNat : Int), .int .u32 (d.toNat : Int), .int .u16 (p.toNat : Int), .int .u16 (q.toNat : Int), .int .u8 (r.toNat : Int)] 28)) #[.int .u16 (sa.toNat : Int), .int .u16 (sb.toNat : Int), .int .u32 (sq.toNat : Int), .int .u32 (sk.toNat : Int), .int .u8 (sr.toNat : Int), .int .u8 (sf.toNat : Int), .int .u16 (sz.toNat : Int), .int .u16 (su.toNat : Int), .slice A1 n1 c1, .slice A2 n2 c2] 44
  obtain ⟨z0, z1, z2, z3, z4, z5, z6, z7, z8, z9, -⟩ := KG.get10
  go_enter Tryd.func6, Tryd.ntmps6
  go_wp2_with fail
  rw [← hV]
  clear hV
  refine (HF _).out.mono ?_
  rintro e w1 ⟨rfl, hb⟩
  replace hB := bnext hB hb
  replace KS := KS.next hb
  replace KF := KF.next hb
  replace KG := KG.next hb
  clear hb HF z0 z1 z2 z3 z4 z5 z6 z7 z8 z9
  obtain ⟨z0, z1, z2, z3, z4, z5, z6, z7, z8, z9, b0, b1, b2, b3, b4, b5, b6, b7, b8, b9⟩ := KG.get10
  have hBV := bset10 hB (show w.heap.size ≤ w.heap.size + 2 by omega) (.int .u16 (sa.toNat : Int)) (.int .u16 (sb.toNat : Int)) (.int .u32 (sq.toNat : Int)) (.int .u32 (sk.toNat : Int)) (.int .u8 (sr.toNat : Int)) (.int .u8 (sf.toNat : Int)) (.int .u16 (sz.toNat : Int)) (.int .u16 (su.toNat : Int)) (.slice A1 os.length c1) (.slice A2 xs.length c2)
  have KSV := KS.oth10 (g' := w.heap.size + 2) (by omega) (u0 := .int .u16 (sa.toNat : Int)) (u1 := .int .u16 (sb.toNat : Int)) (u2 := .int .u32 (sq.toNat : Int)) (u3 := .int .u32 (sk.toNat : Int)) (u4 := .int .u8 (sr.toNat : Int)) (u5 := .int .u8 (sf.toNat : Int)) (u6 := .int .u16 (sz.toNat : Int)) (u7 := .int .u16 (su.toNat : Int)) (u8 := .slice A1 os.length c1) (u9 := .slice A2 xs.length c2)
  have KFV := KF.oth10 (g' := w.heap.size + 2) (by omega) (u0 := .int .u16 (sa.toNat : Int)) (u1 := .int .u16 (sb.toNat : Int)) (u2 := .int .u32 (sq.toNat : Int)) (u3 := .int .u32 (sk.toNat : Int)) (u4 := .int .u8 (sr.toNat : Int)) (u5 := .int .u8 (sf.toNat : Int)) (u6 := .int .u16 (sz.toNat : Int)) (u7 := .int .u16 (su.toNat : Int)) (u8 := .slice A1 os.length c1) (u9 := .slice A2 xs.length c2)
  have KGV := KG.set10 (u0 := .int .u16 (sa.toNat : Int)) (u1 := .int .u16 (sb.toNat : Int)) (u2 := .int .u32 (sq.toNat : Int)) (u3 := .int .u32 (sk.toNat : Int)) (u4 := .int .u8 (sr.toNat : Int)) (u5 := .int .u8 (sf.toNat : Int)) (u6 := .int .u16 (sz.toNat : Int)) (u7 := .int .u16 (su.toNat : Int)) (u8 := .slice A1 os.length c1) (u9 := .slice A2 xs.length c2)
  simp only [setAll10] at hBV KSV KFV KGV
  clear KS KF KG hB
  obtain ⟨j0, j1, j2, j3, j4, -⟩ := KSV.get5
  replace hBV := bnextA hBV (.cells #[.int .u64 (lo : Int), .int .u64 (hi : Int), .int .u64 (lo2 : Int), .int .u64 (hi2 : Int), .int .i64 ep] 46)
  have KT : Blk (((((((((((w1.setCell ⟨w.heap.size + 2, 0, none⟩ (.int .u16 (sa.toNat : Int))).setCell ⟨w.heap.size + 2, 1, none⟩ (.int .u16 (sb.toNat : Int))).setCell ⟨w.heap.size + 2, 2, none⟩ (.int .u32 (sq.toNat : Int))).setCell ⟨w.heap.size + 2, 3, none⟩ (.int .u32 (sk.toNat : Int))).setCell ⟨w.heap.size + 2, 4, none⟩ (.int .u8 (sr.toNat : Int))).setCell ⟨w.heap.size + 2, 5, none⟩ (.int .u8 (sf.toNat : Int))).setCell ⟨w.heap.size + 2, 6, none⟩ (.int .u16 (sz.toNat : Int))).setCell ⟨w.heap.size + 2, 7, none⟩ (.int .u16 (su.toNat : Int))).setCell ⟨w.heap.size + 2, 8, none⟩ (.slice A1 os.length c1)).setCell ⟨w.heap.size + 2, 9, none⟩ (.slice A2 xs.length c2)).alloc (.cells #[.int .u64 (lo : Int), .int .u64 (hi : Int), .int .u64 (lo2 : Int), .int .u64 (hi2 : Int), .int .i64 ep] 46)) w1.heap.size [.int .u64 (lo : Int), .int .u64 (hi : Int), .int .u64 (lo2 : Int), .int .u64 (hi2 : Int), .int .i64 ep] 46 := by simpa using Blk.new ((((((((((w1.setCell ⟨w.heap.size + 2, 0, none⟩ (.int .u16 (sa.toNat : Int))).setCell ⟨w.heap.size + 2, 1, none⟩ (.int .u16 (sb.toNat : Int))).setCell ⟨w.heap.size + 2, 2, none⟩ (.int .u32 (sq.toNat : Int))).setCell ⟨w.heap.size + 2, 3, none⟩ (.int .u32 (sk.toNat : Int))).setCell ⟨w.heap.size + 2, 4, none⟩ (.int .u8 (sr.toNat : Int))).setCell ⟨w.heap.size + 2, 5, none⟩ (.int .u8 (sf.toNat : Int))).setCell ⟨w.heap.size + 2, 6, none⟩ (.int .u16 (sz.toNat : Int))).setCell ⟨w.heap.size + 2, 7, none⟩ (.int .u16 (su.toNat : Int))).setCell ⟨w.heap.size + 2, 8, none⟩ (.slice A1 os.length c1)).setCell ⟨w.heap.size + 2, 9, none⟩ (.slice A2 xs.length c2)) #[.int .u64 (lo : Int), .int .u64 (hi : Int), .int .u64 (lo2 : Int), .int .u64 (hi2 : Int), .int .i64 ep] 46
  have KS := KSV.alloc (.cells #[.int .u64 (lo : Int), .int .u64 (hi : Int), .int .u64 (lo2 : Int), .int .u64 (hi2 : Int), .int .i64 ep] 46)
  have KF := KFV.alloc (.cells #[.int .u64 (lo : Int), .int .u64 (hi : Int), .int .u64 (lo2 : Int), .int .u64 (hi2 : Int), .int .i64 ep] 46)
  have KG := KGV.alloc (.cells #[.int .u64 (lo : Int), .int .u64 (hi : Int), .int .u64 (lo2 : Int), .int .u64 (hi2 : Int), .int .i64 ep] 46)
  clear KSV KFV KGV
  obtain ⟨k0, k1, k2, k3, k4, -⟩ := KS.get5
  obtain ⟨f0, f1, f2, f3, f4, -⟩ := KF.get5
  obtain ⟨y0, y1, y2, y3, y4, y5, y6, y7, y8, y9, -⟩ := KG.get10
  go_wp2_with fail
  clear z0 z1 z2 z3 z4 z5 z6 z7 z8 z9 b0 b1 b2 b3 b4 b5 b6 b7 b8 b9 y0 y1 y2 y3 y4 y5 y6 y7 y8 y9 k0 k1 k2 k3 k4 f0 f1 f2 f3 f4 j0 j1 j2 j3 j4
  generalize (((((((((w1.setCell ⟨w.heap.size + 2, 0, none⟩ (.int .u16 (sa.toNat : Int))).setCell ⟨w.heap.size + 2, 1, none⟩ (.int .u16 (sb.toNat : Int))).setCell ⟨w.heap.size + 2, 2, none⟩ (.int .u32 (sq.toNat : Int))).setCell ⟨w.heap.size + 2, 3, none⟩ (.int .u32 (sk.toNat : Int))).setCell ⟨w.heap.size + 2, 4, none⟩ (.int .u8 (sr.toNat : Int))).setCell ⟨w.heap.size + 2, 5, none⟩ (.int .u8 (sf.toNat : Int))).setCell ⟨w.heap.size + 2, 6, none⟩ (.int .u16 (sz.toNat : Int))).setCell ⟨w.heap.size + 2, 7, none⟩ (.int .u16 (su.toNat : Int))).setCell ⟨w.heap.size + 2, 8, none⟩ (.slice A1 os.length c1)).setCell ⟨w.heap.size + 2, 9, none⟩ (.slice A2 xs.length c2) = V1 at hBV KS KF KG KT ⊢
  obtain ⟨V2, hV2⟩ : ∃ V2, V2 = V1.alloc (.cells #[.int .u64 (lo : Int), .int .u64 (hi : Int), .int .u64 (lo2 : Int), .int .u64 (hi2 : Int), .int .i64 ep] 46) := ⟨_, rfl⟩
  rw [← hV2] at hBV KS KF KG KT ⊢
  clear hV2
  generalize w1.heap.size = gt at *
  have hB := hBV
  clear hBV
  refine (HA1 _).out.mono ?_
  rintro e w2 ⟨rfl, hb⟩
  replace hB := bnext hB hb
  replace KS := KS.next hb
  replace KF := KF.next hb
  replace KG := KG.next hb
  replace KT := KT.next hb
  clear hb HA1
  obtain ⟨k0, k1, k2, k3, k4, -⟩ := KS.get5
  obtain ⟨f0, f1, f2, f3, f4, -⟩ := KF.get5
  obtain ⟨z0, z1, z2, z3, z4, z5, z6, z7, z8, z9, -⟩ := KG.get10
  obtain ⟨t0, t1, t2, t3, t4, -⟩ := KT.get5
  go_wp2_with fail
  refine (HA2 _).out.mono ?_
  rintro e w3 ⟨rfl, hb⟩
  replace hB := bnext hB hb
  replace KS := KS.next hb
  replace KF := KF.next hb
  replace KG := KG.next hb
  replace KT := KT.next hb
  clear hb HA2 k0 k1 k2 k3 k4 f0 f1 f2 f3 f4 z0 z1 z2 z3 z4 z5 z6 z7 z8 z9 t0 t1 t2 t3 t4
  go_wp2_with fail
  have rO := ho0.next hB
  have hSV := hS.next hB
  generalize w3 = V4 at *
  refine region_put (by kernel_rfl) (by kernel_rfl) (by kernel_rfl) 57 rfl (by kernel_rfl) V4 (fun i v W => match i with
      | 0 => v = .agg #[.int .u64 (lo : Int), .int .u64 (hi : Int), .int .u64 (lo2 : Int), .int .u64 (hi2 : Int), .int .i64 ep]
      | 1 => v = .agg #[.int .u32 (s.toNat : Int), .int .u32 (d.toNat : Int), .int .u16 (p.toNat : Int), .int .u16 (q.toNat : Int), .int .u8 (r.toNat : Int)]
      | 2 => v = .agg #[.int .u16 (sa.toNat : Int), .int .u16 (sb.toNat : Int), .int .u32 (sq.toNat : Int), .int .u32 (sk.toNat : Int), .int .u8 (sr.toNat : Int), .int .u8 (sf.toNat : Int), .int .u16 (sz.toNat : Int), .int .u16 (su.toNat : Int), .slice A1 os.length c1, .slice A2 xs.length c2]
      | 3 => ∃ L A c M B d, v = .agg #[.int .u16 (q.toNat : Int), .int .u16 (p.toNat : Int), .int .u32 (vv.toNat : Int), .int .u32 (sq1.toNat : Int), .int .u8 0, .int .u8 18, .int .u16 65535, .int .u16 0, .slice A L.length c, .slice B M.length d] ∧ Hid (L = [2, 4] ++ be16 z) ∧ Hid (M = []) ∧ Rd bv W W.heap.size A c L ∧ Rd bv W W.heap.size B d M
      | 4 => v = .agg #[.int .u64 (lo : Int), .int .u64 (hi : Int), .int .u64 (lo2 : Int), .int .u64 (hi2 : Int), .int .i64 ep]
      | 5 => v = .agg #[.int .u32 (s.toNat : Int), .int .u32 (d.toNat : Int), .int .u16 (p.toNat : Int), .int .u16 (q.toNat : Int), .int .u8 (r.toNat : Int)]
      | 6 => v = .agg #[.int .u16 (sa.toNat : Int), .int .u16 (sb.toNat : Int), .int .u32 (sq.toNat : Int), .int .u32 (sk.toNat : Int), .int .u8 (sr.toNat : Int), .int .u8 (sf.toNat : Int), .int .u16 (sz.toNat : Int), .int .u16 (su.toNat : Int), .slice A1 os.length c1, .slice A2 xs.length c2]
      | 7 => ∃ L A c M B d, v = .agg #[.int .u16 (q.toNat : Int), .int .u16 (p.toNat : Int), .int .u32 (vv.toNat : Int), .int .u32 (sq1.toNat : Int), .int .u8 0, .int .u8 18, .int .u16 65535, .int .u16 0, .slice A L.length c, .slice B M.length d] ∧ Hid (L = [2, 4] ++ be16 z) ∧ Hid (M = []) ∧ Rd bv W W.heap.size A c L ∧ Rd bv W W.heap.size B d M
      | 8 => v = .bool true
      | 9 => v = .bool true
      | 10 => v = .int .i64 (I : Int)
      | 11 => v = .int .i64 (I : Int)
      | 12 => v = .bool true
      | 13 => v = .bool true
      | 14 => v = .bool true
      | 15 => v = .bool b
      | 16 => v = .bool b
      | 17 => v = .bool true
      | 18 => v = .bool true
      | 19 => v = .bool true
      | 20 => v = .bool true
      | 21 => v = .bool true
      | 22 => v = .bool true
      | _ => True) (Below.refl _ _) ?_ ?_ ?_
  · intro i v W W' h hb
    match i, h with
    | 0, h => exact h
    | 1, h => exact h
    | 2, h => exact h
    | 3, h => obtain ⟨L, A, c, M, B, d, h1, h2, h3, h4, h5⟩ := h; exact ⟨L, A, c, M, B, d, h1, h2, h3, h4.next hb, h5.next hb⟩
    | 4, h => exact h
    | 5, h => exact h
    | 6, h => exact h
    | 7, h => obtain ⟨L, A, c, M, B, d, h1, h2, h3, h4, h5⟩ := h; exact ⟨L, A, c, M, B, d, h1, h2, h3, h4.next hb, h5.next hb⟩
    | 8, h => exact h
    | 9, h => exact h
    | 10, h => exact h
    | 11, h => exact h
    | 12, h => exact h
    | 13, h => exact h
    | 14, h => exact h
    | 15, h => exact h
    | 16, h => exact h
    | 17, h => exact h
    | 18, h => exact h
    | 19, h => exact h
    | 20, h => exact h
    | 21, h => exact h
    | 22, h => exact h
    | _ + 23, _ => trivial
  · intro i o uu W hoo hVW hd
    rcases i with _|_|_|_|_|_|_|_|_|_|_|_|_|_|_|_|_|_|_|_|_|_|_|i
    · obtain rfl := Option.some.inj hoo
      refine .inl ⟨wanted_none rfl, ?_⟩
      generalize hev : Act.eval _ = ev
      have ec : ∀ c, ev (.const c) = c := fun c => by rw [← hev]; rfl
      have e3 : ev (.tmp 3) = .pointer (some ⟨w.heap.size, 0, none⟩) := by rw [← hev]; exact eval_old (by kernel_rfl) 57 rfl (by decide) rfl
      clear hev hd
      exact .inl ⟨_, W, load_blk Tryd.underlying36 (by kernel_rfl) (KS.next hVW) rfl e3, rfl, Below.refl _ _⟩
    · obtain rfl := Option.some.inj hoo
      refine .inl ⟨wanted_none rfl, ?_⟩
      generalize hev : Act.eval _ = ev
      have ec : ∀ c, ev (.const c) = c := fun c => by rw [← hev]; rfl
      have e4 : ev (.tmp 4) = .pointer (some ⟨w.heap.size + 1, 0, none⟩) := by rw [← hev]; exact eval_old (by kernel_rfl) 57 rfl (by decide) rfl
      clear hev hd
      exact .inl ⟨_, W, load_blk Tryd.underlying28 (by kernel_rfl) (KF.next hVW) rfl e4, rfl, Below.refl _ _⟩
    · obtain rfl := Option.some.inj hoo
      refine .inl ⟨wanted_none rfl, ?_⟩
      generalize hev : Act.eval _ = ev
      have ec : ∀ c, ev (.const c) = c := fun c => by rw [← hev]; rfl
      have e5 : ev (.tmp 5) = .pointer (some ⟨w.heap.size + 2, 0, none⟩) := by rw [← hev]; exact eval_old (by kernel_rfl) 57 rfl (by decide) rfl
      clear hev hd
      exact .inl ⟨_, W, load_blk Tryd.underlying44 (by kernel_rfl) (KG.next hVW) rfl e5, rfl, Below.refl _ _⟩
    · obtain rfl := Option.some.inj hoo
      have q0 : uu 0 = .agg #[.int .u64 (lo : Int), .int .u64 (hi : Int), .int .u64 (lo2 : Int), .int .u64 (hi2 : Int), .int .i64 ep] := hd 0 (by kernel_rfl)
      have q1 : uu 1 = .agg #[.int .u32 (s.toNat : Int), .int .u32 (d.toNat : Int), .int .u16 (p.toNat : Int), .int .u16 (q.toNat : Int), .int .u8 (r.toNat : Int)] := hd 1 (by kernel_rfl)
      have q2 : uu 2 = .agg #[.int .u16 (sa.toNat : Int), .int .u16 (sb.toNat : Int), .int .u32 (sq.toNat : Int), .int .u32 (sk.toNat : Int), .int .u8 (sr.toNat : Int), .int .u8 (sf.toNat : Int), .int .u16 (sz.toNat : Int), .int .u16 (su.toNat : Int), .slice A1 os.length c1, .slice A2 xs.length c2] := hd 2 (by kernel_rfl)
      refine .inl ⟨wanted_none rfl, ?_⟩
      generalize hev : Act.eval _ = ev
      have ec : ∀ c, ev (.const c) = c := fun c => by rw [← hev]; rfl
      have ef : ∀ f, ev (.func f) = .func (.func f) #[] #[] := fun f => by rw [← hev]; rfl
      have e35 : ev (.tmp 35) = .agg #[.int .u64 (lo : Int), .int .u64 (hi : Int), .int .u64 (lo2 : Int), .int .u64 (hi2 : Int), .int .i64 ep] := by rw [← hev]; exact (eval_put (by kernel_rfl) 57 rfl (by decide)).trans q0
      have e36 : ev (.tmp 36) = .agg #[.int .u32 (s.toNat : Int), .int .u32 (d.toNat : Int), .int .u16 (p.toNat : Int), .int .u16 (q.toNat : Int), .int .u8 (r.toNat : Int)] := by rw [← hev]; exact (eval_put (by kernel_rfl) 57 rfl (by decide)).trans q1
      have e37 : ev (.tmp 37) = .agg #[.int .u16 (sa.toNat : Int), .int .u16 (sb.toNat : Int), .int .u32 (sq.toNat : Int), .int .u32 (sk.toNat : Int), .int .u8 (sr.toNat : Int), .int .u8 (sf.toNat : Int), .int .u16 (sz.toNat : Int), .int .u16 (su.toNat : Int), .slice A1 os.length c1, .slice A2 xs.length c2] := by rw [← hev]; exact (eval_put (by kernel_rfl) 57 rfl (by decide)).trans q2
      clear hev hd q0 q1 q2
      exact .inr ⟨_, _, _, by go_simp, (HO W (rO.next hVW) (hSV.next hVW)).out, fun e w' he => by
        obtain ⟨L, A, c, M, B, d, rfl, HL, HM, hr, hs, hb⟩ := he
        exact ⟨_, rfl, ⟨L, A, c, M, B, d, rfl, HL, HM, hr, hs⟩, hb⟩⟩
    · obtain rfl := Option.some.inj hoo
      refine .inl ⟨wanted_none rfl, ?_⟩
      generalize hev : Act.eval _ = ev
      have ec : ∀ c, ev (.const c) = c := fun c => by rw [← hev]; rfl
      have e7 : ev (.tmp 7) = .pointer (some ⟨gt, 0, none⟩) := by rw [← hev]; exact eval_old (by kernel_rfl) 57 rfl (by decide) rfl
      clear hev hd
      exact .inl ⟨_, W, load_blk Tryd.underlying46 (by kernel_rfl) (KT.next hVW) rfl e7, rfl, Below.refl _ _⟩
    · obtain rfl := Option.some.inj hoo
      refine .inl ⟨wanted_none rfl, ?_⟩
      generalize hev : Act.eval _ = ev
      have ec : ∀ c, ev (.const c) = c := fun c => by rw [← hev]; rfl
      have e4 : ev (.tmp 4) = .pointer (some ⟨w.heap.size + 1, 0, none⟩) := by rw [← hev]; exact eval_old (by kernel_rfl) 57 rfl (by decide) rfl
      clear hev hd
      exact .inl ⟨_, W, load_blk Tryd.underlying28 (by kernel_rfl) (KF.next hVW) rfl e4, rfl, Below.refl _ _⟩
    · obtain rfl := Option.some.inj hoo
      refine .inl ⟨wanted_none rfl, ?_⟩
      generalize hev : Act.eval _ = ev
      have ec : ∀ c, ev (.const c) = c := fun c => by rw [← hev]; rfl
      have e5 : ev (.tmp 5) = .pointer (some ⟨w.heap.size + 2, 0, none⟩) := by rw [← hev]; exact eval_old (by kernel_rfl) 57 rfl (by decide) rfl
      clear hev hd
      exact .inl ⟨_, W, load_blk Tryd.underlying44 (by kernel_rfl) (KG.next hVW) rfl e5, rfl, Below.refl _ _⟩
    · obtain rfl := Option.some.inj hoo
      have q4 : uu 4 = .agg #[.int .u64 (lo : Int), .int .u64 (hi : Int), .int .u64 (lo2 : Int), .int .u64 (hi2 : Int), .int .i64 ep] := hd 4 (by kernel_rfl)
      have q5 : uu 5 = .agg #[.int .u32 (s.toNat : Int), .int .u32 (d.toNat : Int), .int .u16 (p.toNat : Int), .int .u16 (q.toNat : Int), .int .u8 (r.toNat : Int)] := hd 5 (by kernel_rfl)
      have q6 : uu 6 = .agg #[.int .u16 (sa.toNat : Int), .int .u16 (sb.toNat : Int), .int .u32 (sq.toNat : Int), .int .u32 (sk.toNat : Int), .int .u8 (sr.toNat : Int), .int .u8 (sf.toNat : Int), .int .u16 (sz.toNat : Int), .int .u16 (su.toNat : Int), .slice A1 os.length c1, .slice A2 xs.length c2] := hd 6 (by kernel_rfl)
      refine .inl ⟨wanted_none rfl, ?_⟩
      generalize hev : Act.eval _ = ev
      have ec : ∀ c, ev (.const c) = c := fun c => by rw [← hev]; rfl
      have ef : ∀ f, ev (.func f) = .func (.func f) #[] #[] := fun f => by rw [← hev]; rfl
      have e39 : ev (.tmp 39) = .agg #[.int .u64 (lo : Int), .int .u64 (hi : Int), .int .u64 (lo2 : Int), .int .u64 (hi2 : Int), .int .i64 ep] := by rw [← hev]; exact (eval_put (by kernel_rfl) 57 rfl (by decide)).trans q4
      have e40 : ev (.tmp 40) = .agg #[.int .u32 (s.toNat : Int), .int .u32 (d.toNat : Int), .int .u16 (p.toNat : Int), .int .u16 (q.toNat : Int), .int .u8 (r.toNat : Int)] := by rw [← hev]; exact (eval_put (by kernel_rfl) 57 rfl (by decide)).trans q5
      have e41 : ev (.tmp 41) = .agg #[.int .u16 (sa.toNat : Int), .int .u16 (sb.toNat : Int), .int .u32 (sq.toNat : Int), .int .u32 (sk.toNat : Int), .int .u8 (sr.toNat : Int), .int .u8 (sf.toNat : Int), .int .u16 (sz.toNat : Int), .int .u16 (su.toNat : Int), .slice A1 os.length c1, .slice A2 xs.length c2] := by rw [← hev]; exact (eval_put (by kernel_rfl) 57 rfl (by decide)).trans q6
      clear hev hd q4 q5 q6
      exact .inr ⟨_, _, _, by go_simp, (HRO W (rO.next hVW)).out, fun e w' he => by
        obtain ⟨L, A, c, M, B, d, rfl, HL, HM, hr, hs, hb⟩ := he
        exact ⟨_, rfl, ⟨L, A, c, M, B, d, rfl, HL, HM, hr, hs⟩, hb⟩⟩
    · obtain rfl := Option.some.inj hoo
      obtain ⟨L3, A3, c3, M3, B3, d3, q3, HL3, HM3, r3, s3⟩ := hd 3 (by kernel_rfl)
      obtain ⟨L7, A7, c7, M7, B7, d7, q7, HL7, HM7, r7, s7⟩ := hd 7 (by kernel_rfl)
      refine .inl ⟨wanted_none rfl, ?_⟩
      generalize hev : Act.eval _ = ev
      have ec : ∀ c, ev (.const c) = c := fun c => by rw [← hev]; rfl
      have ef : ∀ f, ev (.func f) = .func (.func f) #[] #[] := fun f => by rw [← hev]; rfl
      have e38 : ev (.tmp 38) = .agg #[.int .u16 (q.toNat : Int), .int .u16 (p.toNat : Int), .int .u32 (vv.toNat : Int), .int .u32 (sq1.toNat : Int), .int .u8 0, .int .u8 18, .int .u16 65535, .int .u16 0, .slice A3 L3.length c3, .slice B3 M3.length d3] := by rw [← hev]; exact (eval_put (by kernel_rfl) 57 rfl (by decide)).trans q3
      have e42 : ev (.tmp 42) = .agg #[.int .u16 (q.toNat : Int), .int .u16 (p.toNat : Int), .int .u32 (vv.toNat : Int), .int .u32 (sq1.toNat : Int), .int .u8 0, .int .u8 18, .int .u16 65535, .int .u16 0, .slice A7 L7.length c7, .slice B7 M7.length d7] := by rw [← hev]; exact (eval_put (by kernel_rfl) 57 rfl (by decide)).trans q7
      clear hev hd q3 q7
      exact .inr ⟨_, _, _, by go_simp, (HSM W _ _ _ _ _ _ _ _ _ _ _ _ r3 s3 r7 s7 (HL7.out.trans HL3.out.symm) (HM7.out.trans HM3.out.symm)).out, fun e w' he => ⟨_, he.1, rfl, he.2⟩⟩
    · obtain rfl := Option.some.inj hoo
      have q8 : uu 8 = .bool true := hd 8 (by kernel_rfl)
      refine .inl ⟨wanted_none rfl, ?_⟩
      generalize hev : Act.eval _ = ev
      have ec : ∀ c, ev (.const c) = c := fun c => by rw [← hev]; rfl
      have e43 : ev (.tmp 43) = .bool true := by rw [← hev]; exact (eval_put (by kernel_rfl) 57 rfl (by decide)).trans q8
      clear hev hd q8
      exact .inl ⟨_, W, by go_simp, rfl, Below.refl _ _⟩
    · obtain rfl := Option.some.inj hoo
      have q9 : uu 9 = .bool true := hd 9 (by kernel_rfl)
      refine .inl ⟨wanted_yes rfl (yielded_put (k := 44) (by kernel_rfl) (by kernel_rfl) 57 rfl (by decide) q9), ?_⟩
      generalize hev : Act.eval _ = ev
      have ec : ∀ c, ev (.const c) = c := fun c => by rw [← hev]; rfl
      have e8 : ev (.tmp 8) = .int .i64 (I : Int) := by rw [← hev]; exact eval_old (by kernel_rfl) 57 rfl (by decide) rfl
      clear hev hd q9
      exact .inl ⟨_, W, by go_simp, rfl, Below.refl _ _⟩
    · obtain rfl := Option.some.inj hoo
      have q9 : uu 9 = .bool true := hd 9 (by kernel_rfl)
      refine .inl ⟨wanted_yes rfl (yielded_put (k := 44) (by kernel_rfl) (by kernel_rfl) 57 rfl (by decide) q9), ?_⟩
      generalize hev : Act.eval _ = ev
      have ec : ∀ c, ev (.const c) = c := fun c => by rw [← hev]; rfl
      have e10 : ev (.tmp 10) = .int .i64 (I : Int) := by rw [← hev]; exact eval_old (by kernel_rfl) 57 rfl (by decide) rfl
      clear hev hd q9
      exact .inl ⟨_, W, by go_simp, rfl, Below.refl _ _⟩
    · obtain rfl := Option.some.inj hoo
      have q10 : uu 10 = .int .i64 (I : Int) := hd 10 (by kernel_rfl)
      have q11 : uu 11 = .int .i64 (I : Int) := hd 11 (by kernel_rfl)
      have q9 : uu 9 = .bool true := hd 9 (by kernel_rfl)
      refine .inl ⟨wanted_yes rfl (yielded_put (k := 44) (by kernel_rfl) (by kernel_rfl) 57 rfl (by decide) q9), ?_⟩
      generalize hev : Act.eval _ = ev
      have ec : ∀ c, ev (.const c) = c := fun c => by rw [← hev]; rfl
      have e45 : ev (.tmp 45) = .int .i64 (I : Int) := by rw [← hev]; exact (eval_put (by kernel_rfl) 57 rfl (by decide)).trans q10
      have e46 : ev (.tmp 46) = .int .i64 (I : Int) := by rw [← hev]; exact (eval_put (by kernel_rfl) 57 rfl (by decide)).trans q11
      clear hev hd q10 q11 q9
      exact .inl ⟨_, W, by go_simp, rfl, Below.refl _ _⟩
    · obtain rfl := Option.some.inj hoo
      have q9 : uu 9 = .bool true := hd 9 (by kernel_rfl)
      have q12 : uu 12 = .bool true := hd 12 (by kernel_rfl)
      refine .inl ⟨wanted_none rfl, ?_⟩
      generalize hev : Act.eval _ = ev
      have ec : ∀ c, ev (.const c) = c := fun c => by rw [← hev]; rfl
      have e44 : ev (.tmp 44) = .bool true := by rw [← hev]; exact (eval_put (by kernel_rfl) 57 rfl (by decide)).trans q9
      have e47 : ev (.tmp 47) = .bool true := by rw [← hev]; exact (eval_put (by kernel_rfl) 57 rfl (by decide)).trans q12
      clear hev hd q9 q12
      exact .inl ⟨_, W, by go_simp, rfl, Below.refl _ _⟩
    · obtain rfl := Option.some.inj hoo
      have q13 : uu 13 = .bool true := hd 13 (by kernel_rfl)
      refine .inl ⟨wanted_none rfl, ?_⟩
      generalize hev : Act.eval _ = ev
      have ec : ∀ c, ev (.const c) = c := fun c => by rw [← hev]; rfl
      have e48 : ev (.tmp 48) = .bool true := by rw [← hev]; exact (eval_put (by kernel_rfl) 57 rfl (by decide)).trans q13
      clear hev hd q13
      exact .inl ⟨_, W, by go_simp, rfl, Below.refl _ _⟩
    · obtain rfl := Option.some.inj hoo
      have q14 : uu 14 = .bool true := hd 14 (by kernel_rfl)
      refine .inl ⟨wanted_yes rfl (yielded_put (k := 49) (by kernel_rfl) (by kernel_rfl) 57 rfl (by decide) q14), ?_⟩
      generalize hev : Act.eval _ = ev
      have ec : ∀ c, ev (.const c) = c := fun c => by rw [← hev]; rfl
      have e9 : ev (.tmp 9) = .bool b := by rw [← hev]; exact eval_old (by kernel_rfl) 57 rfl (by decide) rfl
      clear hev hd q14
      exact .inl ⟨_, W, by go_simp, rfl, Below.refl _ _⟩
    · obtain rfl := Option.some.inj hoo
      have q14 : uu 14 = .bool true := hd 14 (by kernel_rfl)
      refine .inl ⟨wanted_yes rfl (yielded_put (k := 49) (by kernel_rfl) (by kernel_rfl) 57 rfl (by decide) q14), ?_⟩
      generalize hev : Act.eval _ = ev
      have ec : ∀ c, ev (.const c) = c := fun c => by rw [← hev]; rfl
      have e11 : ev (.tmp 11) = .bool b := by rw [← hev]; exact eval_old (by kernel_rfl) 57 rfl (by decide) rfl
      clear hev hd q14
      exact .inl ⟨_, W, by go_simp, rfl, Below.refl _ _⟩
    · obtain rfl := Option.some.inj hoo
      have q15 : uu 15 = .bool b := hd 15 (by kernel_rfl)
      have q16 : uu 16 = .bool b := hd 16 (by kernel_rfl)
      have q14 : uu 14 = .bool true := hd 14 (by kernel_rfl)
      refine .inl ⟨wanted_yes rfl (yielded_put (k := 49) (by kernel_rfl) (by kernel_rfl) 57 rfl (by decide) q14), ?_⟩
      generalize hev : Act.eval _ = ev
      have ec : ∀ c, ev (.const c) = c := fun c => by rw [← hev]; rfl
      have e50 : ev (.tmp 50) = .bool b := by rw [← hev]; exact (eval_put (by kernel_rfl) 57 rfl (by decide)).trans q15
      have e51 : ev (.tmp 51) = .bool b := by rw [← hev]; exact (eval_put (by kernel_rfl) 57 rfl (by decide)).trans q16
      clear hev hd q15 q16 q14
      exact .inl ⟨_, W, by go_simp, rfl, Below.refl _ _⟩
    · obtain rfl := Option.some.inj hoo
      have q14 : uu 14 = .bool true := hd 14 (by kernel_rfl)
      have q17 : uu 17 = .bool true := hd 17 (by kernel_rfl)
      refine .inl ⟨wanted_none rfl, ?_⟩
      generalize hev : Act.eval _ = ev
      have ec : ∀ c, ev (.const c) = c := fun c => by rw [← hev]; rfl
      have e49 : ev (.tmp 49) = .bool true := by rw [← hev]; exact (eval_put (by kernel_rfl) 57 rfl (by decide)).trans q14
      have e52 : ev (.tmp 52) = .bool true := by rw [← hev]; exact (eval_put (by kernel_rfl) 57 rfl (by decide)).trans q17
      clear hev hd q14 q17
      exact .inl ⟨_, W, by go_simp, rfl, Below.refl _ _⟩
    · obtain rfl := Option.some.inj hoo
      have q18 : uu 18 = .bool true := hd 18 (by kernel_rfl)
      refine .inl ⟨wanted_none rfl, ?_⟩
      generalize hev : Act.eval _ = ev
      have ec : ∀ c, ev (.const c) = c := fun c => by rw [← hev]; rfl
      have e53 : ev (.tmp 53) = .bool true := by rw [← hev]; exact (eval_put (by kernel_rfl) 57 rfl (by decide)).trans q18
      clear hev hd q18
      exact .inl ⟨_, W, by go_simp, rfl, Below.refl _ _⟩
    · obtain rfl := Option.some.inj hoo
      have q19 : uu 19 = .bool true := hd 19 (by kernel_rfl)
      refine .inl ⟨wanted_yes rfl (yielded_put (k := 54) (by kernel_rfl) (by kernel_rfl) 57 rfl (by decide) q19), ?_⟩
      generalize hev : Act.eval _ = ev
      have ec : ∀ c, ev (.const c) = c := fun c => by rw [← hev]; rfl
      have ef : ∀ f, ev (.func f) = .func (.func f) #[] #[] := fun f => by rw [← hev]; rfl
      clear hev hd q19
      exact .inr ⟨_, _, _, by go_simp, lives38_any W (hSV.next hVW), fun e w' he => ⟨_, he.1, rfl, he.2⟩⟩
    · obtain rfl := Option.some.inj hoo
      have q19 : uu 19 = .bool true := hd 19 (by kernel_rfl)
      have q20 : uu 20 = .bool true := hd 20 (by kernel_rfl)
      refine .inl ⟨wanted_none rfl, ?_⟩
      generalize hev : Act.eval _ = ev
      have ec : ∀ c, ev (.const c) = c := fun c => by rw [← hev]; rfl
      have e54 : ev (.tmp 54) = .bool true := by rw [← hev]; exact (eval_put (by kernel_rfl) 57 rfl (by decide)).trans q19
      have e55 : ev (.tmp 55) = .bool true := by rw [← hev]; exact (eval_put (by kernel_rfl) 57 rfl (by decide)).trans q20
      clear hev hd q19 q20
      exact .inl ⟨_, W, by go_simp, rfl, Below.refl _ _⟩
    · obtain rfl := Option.some.inj hoo
      have q21 : uu 21 = .bool true := hd 21 (by kernel_rfl)
      refine .inl ⟨wanted_none rfl, ?_⟩
      generalize hev : Act.eval _ = ev
      have ec : ∀ c, ev (.const c) = c := fun c => by rw [← hev]; rfl
      have e56 : ev (.tmp 56) = .bool true := by rw [← hev]; exact (eval_put (by kernel_rfl) 57 rfl (by decide)).trans q21
      clear hev hd q21
      exact .inl ⟨_, W, by go_simp, rfl, Below.refl _ _⟩
    · simp at hoo
  · intro uu W hVW hall
    replace hB := hB.trans (hVW.mono hB.size)
    have q22 : uu 22 = .bool true := hall 22 (by decide)
    simp only [putAll, Act.put, Nat.reduceAdd, q22]
    simp only [List.setIfInBounds_toArray, List.set_cons_succ, List.set_cons_zero]
    go_wp2_with fail
    go_ret
    exact ⟨rfl, hB⟩
theorem ProxyOffers_walk (a0_0_0 : Int) (a0_0_1 : Int) (a0_1_0 : Int) (a0_1_1 : Int) (a0_2 : Int) (a1_0 : Int) (a1_1 : Int) (a1_2 : Int) (a1_3 : Int) (a1_4 : Int) (a2_0 : Int) (a2_1 : Int) (a2_2 : Int) (a2_3 : Int) (a2_4 : Int) (a2_5 : Int) (a2_6 : Int) (a2_7 : Int) (a2_8 : Option Addr) (len2_8 cap2_8 : Nat) (z2_8 : List Int) (a2_9 : Option Addr) (len2_9 cap2_9 : Nat) (z2_9 : List Int) (w : World) (w0_0_0 : (Lit.int .u64 a0_0_0).wf = true) (w0_0_1 : (Lit.int .u64 a0_0_1).wf = true) (w0_1_0 : (Lit.int .u64 a0_1_0).wf = true) (w0_1_1 : (Lit.int .u64 a0_1_1).wf = true) (w0_2 : (Lit.int .i64 a0_2).wf = true) (w1_0 : (Lit.int .u32 a1_0).wf = true) (w1_1 : (Lit.int .u32 a1_1).wf = true) (w1_2 : (Lit.int .u16 a1_2).wf = true) (w1_3 : (Lit.int .u16 a1_3).wf = true) (w1_4 : (Lit.int .u8 a1_4).wf = true) (w2_0 : (Lit.int .u16 a2_0).wf = true) (w2_1 : (Lit.int .u16 a2_1).wf = true) (w2_2 : (Lit.int .u32 a2_2).wf = true) (w2_3 : (Lit.int .u32 a2_3).wf = true) (w2_4 : (Lit.int .u8 a2_4).wf = true) (w2_5 : (Lit.int .u8 a2_5).wf = true) (w2_6 : (Lit.int .u16 a2_6).wf = true) (w2_7 : (Lit.int .u16 a2_7).wf = true) (w2_8 : InRow .u8 w a2_8 len2_8 cap2_8 z2_8) (w2_9 : InRow .u8 w a2_9 len2_9 cap2_9 z2_9) (hS : SZ w) :
    Calls Tryd.prog 6 #[.agg #[.int .u64 a0_0_0, .int .u64 a0_0_1, .int .u64 a0_1_0, .int .u64 a0_1_1, .int .i64 a0_2], .agg #[.int .u32 a1_0, .int .u32 a1_1, .int .u16 a1_2, .int .u16 a1_3, .int .u8 a1_4], .agg #[.int .u16 a2_0, .int .u16 a2_1, .int .u32 a2_2, .int .u32 a2_3, .int .u8 a2_4, .int .u8 a2_5, .int .u16 a2_6, .int .u16 a2_7, .slice a2_8 len2_8 cap2_8, .slice a2_9 len2_9 cap2_9]] w fun e w' => e = .returned (.bool true) ∧ Below w.heap.size w w' := by
  obtain ⟨lo, rfl, hlo⟩ := u64_nat w0_0_0
  obtain ⟨hi, rfl, hhi⟩ := u64_nat w0_0_1
  obtain ⟨lo2, rfl, hlo2⟩ := u64_nat w0_1_0
  obtain ⟨hi2, rfl, hhi2⟩ := u64_nat w0_1_1
  obtain ⟨s, rfl⟩ := u32_of w1_0
  obtain ⟨d, rfl⟩ := u32_of w1_1
  obtain ⟨p, rfl⟩ := u16_of w1_2
  obtain ⟨q, rfl⟩ := u16_of w1_3
  obtain ⟨r, rfl⟩ := u8_of w1_4
  obtain ⟨sa, rfl⟩ := u16_of w2_0
  obtain ⟨sb, rfl⟩ := u16_of w2_1
  obtain ⟨sq, rfl⟩ := u32_of w2_2
  obtain ⟨sk, rfl⟩ := u32_of w2_3
  obtain ⟨sr, rfl⟩ := u8_of w2_4
  obtain ⟨sf, rfl⟩ := u8_of w2_5
  obtain ⟨sz, rfl⟩ := u16_of w2_6
  obtain ⟨su, rfl⟩ := u16_of w2_7
  obtain ⟨os, hol, ho0, hlc, hcc, hm⟩ := few_len w2_8 50
  obtain ⟨xs, hxl, hx0', hlc2, hcc2, hm2⟩ := few_len w2_9 200
  exact ProxyOffers_w lo hi lo2 hi2 hlo hhi hlo2 hhi2 a0_2 s d p q r sa sb sq sk sr sf sz su a2_8 a2_9 len2_8 cap2_8 len2_9 cap2_9 (i64_of w0_2).2 os xs hol w hS ho0 hlc hcc hlc2 hcc2 hm hm2
end Go.Proofs.YteodjajjlgekcaaDoor
