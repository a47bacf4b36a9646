/- The walk of the statement on answers to an offer. -/
import Derived.Test.YteodjajjlgekcaaDoorPx
namespace Go.Proofs.YteodjajjlgekcaaDoor
open Go.RowKit
set_option linter.unusedVariables false

set_option maxHeartbeats 1000000 in
theorem ProxyAnswers_lo (lo hi lo2 hi2 : Nat) (h1 : lo < 18446744073709551616) (h2 : hi < 18446744073709551616) (h3 : lo2 < 18446744073709551616) (h4 : hi2 < 18446744073709551616) (ep : Int) (s d : UInt32) (p q : UInt16) (r : UInt8) (sa sb : UInt16) (sq sk : UInt32) (sr sf : UInt8) (sz su : UInt16) (A1 A2 : Option Addr) (n1 c1 n2 c2 : Nat) (x0 x1 : Nat) (h0 : ep < 0) (w : World) (hS : SZ w) :
    Calls Tryd.prog 8 #[.agg #[.int .u64 (lo : Int), .int .u64 (hi : Int), .int .u64 (lo2 : Int), .int .u64 (hi2 : Int), .int .i64 ep], .agg #[.int .u32 (s.toNat : Int), .int .u32 (d.toNat : Int), .int .u16 (p.toNat : Int), .int .u16 (q.toNat : Int), .int .u8 (r.toNat : Int)], .agg #[.int .u16 (sa.toNat : Int), .int .u16 (sb.toNat : Int), .int .u32 (sq.toNat : Int), .int .u32 (sk.toNat : Int), .int .u8 (sr.toNat : Int), .int .u8 (sf.toNat : Int), .int .u16 (sz.toNat : Int), .int .u16 (su.toNat : Int), .slice A1 n1 c1, .slice A2 n2 c2], .agg #[.int .u64 (x0 : Int), .int .u64 (x1 : Int)]] w fun e w' => e = .returned (.bool true) ∧ Below w.heap.size w w' := by
  have a1 : decide (ep < 0) = true := by simp [h0]
  clear h0
  obtain ⟨V, hV⟩ : ∃ V, V = ((((w.alloc (.cells #[.int .u64 (lo : Int), .int .u64 (hi : Int), .int .u64 (lo2 : Int), .int .u64 (hi2 : Int), .int .i64 ep] 36)).alloc (.cells #[.int .u32 (s.toNat : Int), .int .u32 (d.toNat : Int), .int .u16 (p.toNat : Int), .int .u16 (q.toNat : Int), .int .u8 (r.toNat : Int)] 28)).alloc (.cells #[.int .u16 (sa.toNat : Int), .int .u16 (sb.toNat : Int), .int .u32 (sq.toNat : Int), .int .u32 (sk.toNat : Int), .int .u8 (sr.toNat : Int), .int .u8 (sf.toNat : Int), .int .u16 (sz.toNat : Int), .int .u16 (su.toNat : Int), .slice A1 n1 c1, .slice A2 n2 c2] 44)).alloc (.cells #[.int .u64 (x0 : Int), .int .u64 (x1 : Int)] 24)) := ⟨_, rfl⟩
  have hB : Below w.heap.size w V := by subst hV; exact (bnextA (bnextA (bnextA (bnextA (Below.refl _ _) _) _) _) _)
  have KS : Blk V (w.heap.size) [.int .u64 (lo : Int), .int .u64 (hi : Int), .int .u64 (lo2 : Int), .int .u64 (hi2 : Int), .int .i64 ep] 36 := by subst hV; simpa using (((Blk.new w #[.int .u64 (lo : Int), .int .u64 (hi : Int), .int .u64 (lo2 : Int), .int .u64 (hi2 : Int), .int .i64 ep] 36).alloc (.cells #[.int .u32 (s.toNat : Int), .int .u32 (d.toNat : Int), .int .u16 (p.toNat : Int), .int .u16 (q.toNat : Int), .int .u8 (r.toNat : Int)] 28)).alloc (.cells #[.int .u16 (sa.toNat : Int), .int .u16 (sb.toNat : Int), .int .u32 (sq.toNat : Int), .int .u32 (sk.toNat : Int), .int .u8 (sr.toNat : Int), .int .u8 (sf.toNat : Int), .int .u16 (sz.toNat : Int), .int .u16 (su.toNat : Int), .slice A1 n1 c1, .slice A2 n2 c2] 44)).alloc (.cells #[.int .u64 (x0 : Int), .int .u64 (x1 : Int)] 24)
  have KF : Blk V (w.heap.size + 1) [.int .u32 (s.toNat : Int), .int .u32 (d.toNat : Int), .int .u16 (p.toNat : Int), .int .u16 (q.toNat : Int), .int .u8 (r.toNat : Int)] 28 := by subst hV; simpa using ((Blk.new (w.alloc (.cells #[.int .u64 (lo : Int), .int .u64 (hi : Int), .int .u64 (lo2 : Int), .int .u64 (hi2 : Int), .int .i64 ep] 36)) #[.int .u32 (s.toNat : Int), .int .u32 (d.toNat : Int), .int .u16 (p.toNat : Int), .int .u16 (q.toNat : Int), .int .u8 (r.toNat : Int)] 28).alloc (.cells #[.int .u16 (sa.toNat : Int), .int .u16 (sb.toNat : Int), .int .u32 (sq.toNat : Int), .int .u32 (sk.toNat : Int), .int .u8 (sr.toNat : Int), .int .u8 (sf.toNat : Int), .int .u16 (sz.toNat : Int), .int .u16 (su.toNat : Int), .slice A1 n1 c1, .slice A2 n2 c2] 44)).alloc (.cells #[.int .u64 (x0 : Int), .int .u64 (x1 : Int)] 24)
  have KG : Blk V (w.heap.size + 2) [.int .u16 (sa.toNat : Int), .int .u16 (sb.toNat : Int), .int .u32 (sq.toNat : Int), .int .u32 (sk.toNat : Int), .int .u8 (sr.toNat : Int), .int .u8 (sf.toNat : Int), .int .u16 (sz.toNat : Int), .int .u16 (su.toNat : Int), .slice A1 n1 c1, .slice A2 n2 c2] 44 := by subst hV; simpa using (Blk.new ((w.alloc (.cells #[.int .u64 (lo : Int), .int .u64 (hi : Int), .int .u64 (lo2 : Int), .int .u64 (hi2 : Int), .int .i64 ep] 36)).alloc (.cells #[.int .u32 (s.toNat : Int), .int .u32 (d.toNat : Int), .int .u16 (p.toNat : Int), .int .u16 (q.toNat : Int), .int .u8 (r.toNat : Int)] 28)) #[.int .u16 (sa.toNat : Int), .int .u16 (sb.toNat : Int), .int .u32 (sq.toNat : Int), .int .u32 (sk.toNat : Int), .int .u8 (sr.toNat : Int), .int .u8 (sf.toNat : Int), .int .u16 (sz.toNat : Int), .int .u16 (su.toNat : Int), .slice A1 n1 c1, .slice A2 n2 c2] 44).alloc (.cells #[.int .u64 (x0 : Int), .int .u64 (x1 : Int)] 24)
  have KX : Blk V (w.heap.size + 3) [.int .u64 (x0 : Int), .int .u64 (x1 : Int)] 24 := by subst hV; simpa using Blk.new (((w.alloc (.cells #[.int .u64 (lo : Int), .int .u64 (hi : Int), .int .u64 (lo2 : Int), .int .u64 (hi2 : Int), .int .i64 ep] 36)).alloc (.cells #[.int .u32 (s.toNat : Int), .int .u32 (d.toNat : Int), .int .u16 (p.toNat : Int), .int .u16 (q.toNat : Int), .int .u8 (r.toNat : Int)] 28)).alloc (.cells #[.int .u16 (sa.toNat : Int), .int .u16 (sb.toNat : Int), .int .u32 (sq.toNat : Int), .int .u32 (sk.toNat : Int), .int .u8 (sr.toNat : Int), .int .u8 (sf.toNat : Int), .int .u16 (sz.toNat : Int), .int .u16 (su.toNat : Int), .slice A1 n1 c1, .slice A2 n2 c2] 44)) #[.int .u64 (x0 : Int), .int .u64 (x1 : Int)] 24
  obtain ⟨k0, k1, k2, k3, k4, -⟩ := KS.get5
  clear KF KG KX
  go_enter Tryd.func8, Tryd.ntmps8
  go_wp2_with fail
  rw [← hV]
  clear hV
  refine (lives38_any _ (hS.next hB)).mono ?_
  rintro e w1 ⟨rfl, hb⟩
  replace hB := bnext hB hb
  go_wp2_with fail
  go_ret
  exact ⟨rfl, hB⟩
set_option maxHeartbeats 1000000 in
theorem ProxyAnswers_hi (lo hi lo2 hi2 : Nat) (h1 : lo < 18446744073709551616) (h2 : hi < 18446744073709551616) (h3 : lo2 < 18446744073709551616) (h4 : hi2 < 18446744073709551616) (ep : Int) (s d : UInt32) (p q : UInt16) (r : UInt8) (sa sb : UInt16) (sq sk : UInt32) (sr sf : UInt8) (sz su : UInt16) (A1 A2 : Option Addr) (n1 c1 n2 c2 : Nat) (x0 x1 : Nat) (h0 : ¬ ep < 0) (h9 : 1073741823 < ep) (w : World) (hS : SZ w) :
    Calls Tryd.prog 8 #[.agg #[.int .u64 (lo : Int), .int .u64 (hi : Int), .int .u64 (lo2 : Int), .int .u64 (hi2 : Int), .int .i64 ep], .agg #[.int .u32 (s.toNat : Int), .int .u32 (d.toNat : Int), .int .u16 (p.toNat : Int), .int .u16 (q.toNat : Int), .int .u8 (r.toNat : Int)], .agg #[.int .u16 (sa.toNat : Int), .int .u16 (sb.toNat : Int), .int .u32 (sq.toNat : Int), .int .u32 (sk.toNat : Int), .int .u8 (sr.toNat : Int), .int .u8 (sf.toNat : Int), .int .u16 (sz.toNat : Int), .int .u16 (su.toNat : Int), .slice A1 n1 c1, .slice A2 n2 c2], .agg #[.int .u64 (x0 : Int), .int .u64 (x1 : Int)]] w fun e w' => e = .returned (.bool true) ∧ Below w.heap.size w w' := by
  have a1 : decide (ep < 0) = false := by simp [h0]
  have a2 : decide (1073741823 < ep) = true := by simp [h9]
  clear h0 h9
  obtain ⟨V, hV⟩ : ∃ V, V = ((((w.alloc (.cells #[.int .u64 (lo : Int), .int .u64 (hi : Int), .int .u64 (lo2 : Int), .int .u64 (hi2 : Int), .int .i64 ep] 36)).alloc (.cells #[.int .u32 (s.toNat : Int), .int .u32 (d.toNat : Int), .int .u16 (p.toNat : Int), .int .u16 (q.toNat : Int), .int .u8 (r.toNat : Int)] 28)).alloc (.cells #[.int .u16 (sa.toNat : Int), .int .u16 (sb.toNat : Int), .int .u32 (sq.toNat : Int), .int .u32 (sk.toNat : Int), .int .u8 (sr.toNat : Int), .int .u8 (sf.toNat : Int), .int .u16 (sz.toNat : Int), .int .u16 (su.toNat : Int), .slice A1 n1 c1, .slice A2 n2 c2] 44)).alloc (.cells #[.int .u64 (x0 : Int), .int .u64 (x1 : Int)] 24)) := ⟨_, rfl⟩
  have hB : Below w.heap.size w V := by subst hV; exact (bnextA (bnextA (bnextA (bnextA (Below.refl _ _) _) _) _) _)
  have KS : Blk V (w.heap.size) [.int .u64 (lo : Int), .int .u64 (hi : Int), .int .u64 (lo2 : Int), .int .u64 (hi2 : Int), .int .i64 ep] 36 := by subst hV; simpa using (((Blk.new w #[.int .u64 (lo : Int), .int .u64 (hi : Int), .int .u64 (lo2 : Int), .int .u64 (hi2 : Int), .int .i64 ep] 36).alloc (.cells #[.int .u32 (s.toNat : Int), .int .u32 (d.toNat : Int), .int .u16 (p.toNat : Int), .int .u16 (q.toNat : Int), .int .u8 (r.toNat : Int)] 28)).alloc (.cells #[.int .u16 (sa.toNat : Int), .int .u16 (sb.toNat : Int), .int .u32 (sq.toNat : Int), .int .u32 (sk.toNat : Int), .int .u8 (sr.toNat : Int), .int .u8 (sf.toNat : Int), .int .u16 (sz.toNat : Int), .int .u16 (su.toNat : Int), .slice A1 n1 c1, .slice A2 n2 c2] 44)).alloc (.cells #[.int .u64 (x0 : Int), .int .u64 (x1 : Int)] 24)
  have KF : Blk V (w.heap.size + 1) [.int .u32 (s.toNat : Int), .int .u32 (d.toNat : Int), .int .u16 (p.toNat : Int), .int .u16 (q.toNat : Int), .int .u8 (r.toNat : Int)] 28 := by subst hV; simpa using ((Blk.new (w.alloc (.cells #[.int .u64 (lo : Int), .int .u64 (hi : Int), .int .u64 (lo2 : Int), .int .u64 (hi2 : Int), .int .i64 ep] 36)) #[.int .u32 (s.toNat : Int), .int .u32 (d.toNat : Int), .int .u16 (p.toNat : Int), .int .u16 (q.toNat : Int), .int .u8 (r.toNat : Int)] 28).alloc (.cells #[.int .u16 (sa.toNat : Int), .int .u16 (sb.toNat : Int), .int .u32 (sq.toNat : Int), .int .u32 (sk.toNat : Int), .int .u8 (sr.toNat : Int), .int .u8 (sf.toNat : Int), .int .u16 (sz.toNat : Int), .int .u16 (su.toNat : Int), .slice A1 n1 c1, .slice A2 n2 c2] 44)).alloc (.cells #[.int .u64 (x0 : Int), .int .u64 (x1 : Int)] 24)
  have KG : Blk V (w.heap.size + 2) [.int .u16 (sa.toNat : Int), .int .u16 (sb.toNat : Int), .int .u32 (sq.toNat : Int), .int .u32 (sk.toNat : Int), .int .u8 (sr.toNat : Int), .int .u8 (sf.toNat : Int), .int .u16 (sz.toNat : Int), .int .u16 (su.toNat : Int), .slice A1 n1 c1, .slice A2 n2 c2] 44 := by subst hV; simpa using (Blk.new ((w.alloc (.cells #[.int .u64 (lo : Int), .int .u64 (hi : Int), .int .u64 (lo2 : Int), .int .u64 (hi2 : Int), .int .i64 ep] 36)).alloc (.cells #[.int .u32 (s.toNat : Int), .int .u32 (d.toNat : Int), .int .u16 (p.toNat : Int), .int .u16 (q.toNat : Int), .int .u8 (r.toNat : Int)] 28)) #[.int .u16 (sa.toNat : Int), .int .u16 (sb.toNat : Int), .int .u32 (sq.toNat : Int), .int .u32 (sk.toNat : Int), .int .u8 (sr.toNat : Int), .int .u8 (sf.toNat : Int), .int .u16 (sz.toNat : Int), .int .u16 (su.toNat : Int), .slice A1 n1 c1, .slice A2 n2 c2] 44).alloc (.cells #[.int .u64 (x0 : Int), .int .u64 (x1 : Int)] 24)
  have KX : Blk V (w.heap.size + 3) [.int .u64 (x0 : Int), .int .u64 (x1 : Int)] 24 := by subst hV; simpa using Blk.new (((w.alloc (.cells #[.int .u64 (lo : Int), .int .u64 (hi : Int), .int .u64 (lo2 : Int), .int .u64 (hi2 : Int), .int .i64 ep] 36)).alloc (.cells #[.int .u32 (s.toNat : Int), .int .u32 (d.toNat : Int), .int .u16 (p.toNat : Int), .int .u16 (q.toNat : Int), .int .u8 (r.toNat : Int)] 28)).alloc (.cells #[.int .u16 (sa.toNat : Int), .int .u16 (sb.toNat : Int), .int .u32 (sq.toNat : Int), .int .u32 (sk.toNat : Int), .int .u8 (sr.toNat : Int), .int .u8 (sf.toNat : Int), .int .u16 (sz.toNat : Int), .int .u16 (su.toNat : Int), .slice A1 n1 c1, .slice A2 n2 c2] 44)) #[.int .u64 (x0 : Int), .int .u64 (x1 : Int)] 24
  obtain ⟨k0, k1, k2, k3, k4, -⟩ := KS.get5
  clear KF KG KX
  go_enter Tryd.func8, Tryd.ntmps8
  go_wp2_with fail
  rw [← hV]
  clear hV
  refine (lives38_any _ (hS.next hB)).mono ?_
  rintro e w1 ⟨rfl, hb⟩
  replace hB := bnext hB hb
  go_wp2_with fail
  go_ret
  exact ⟨rfl, hB⟩
set_option maxHeartbeats 4000000 in
theorem ProxyAnswers_ok (lo hi lo2 hi2 : Nat) (h1 : lo < 18446744073709551616) (h2 : hi < 18446744073709551616) (h3 : lo2 < 18446744073709551616) (h4 : hi2 < 18446744073709551616) (ep : Int) (s d : UInt32) (p q : UInt16) (r : UInt8) (sa sb : UInt16) (sq sk : UInt32) (sr sf : UInt8) (sz su : UInt16) (A1 A2 : Option Addr) (n1 c1 n2 c2 : Nat) (x0 x1 : Nat) (h0 : 0 ≤ ep) (h9 : ep ≤ 1073741823) (hx0 : x0 < 18446744073709551616) (hx1 : x1 < 18446744073709551616) (os xs : List UInt8) (hol : os.length ≤ 50) (w : World) (hS : SZ w) (ho0 : Rd bv w w.heap.size A1 c1 os) (hlc : n1 ≤ c1) (hcc : c1 ≤ 9223372036854775807) (hlc2 : n2 ≤ c2) (hcc2 : c2 ≤ 9223372036854775807) (hm : Hid (min n1 50 = os.length)) (hm2 : Hid (min n2 200 = xs.length)) :
    Calls Tryd.prog 8 #[.agg #[.int .u64 (lo : Int), .int .u64 (hi : Int), .int .u64 (lo2 : Int), .int .u64 (hi2 : Int), .int .i64 ep], .agg #[.int .u32 (s.toNat : Int), .int .u32 (d.toNat : Int), .int .u16 (p.toNat : Int), .int .u16 (q.toNat : Int), .int .u8 (r.toNat : Int)], .agg #[.int .u16 (sa.toNat : Int), .int .u16 (sb.toNat : Int), .int .u32 (sq.toNat : Int), .int .u32 (sk.toNat : Int), .int .u8 (sr.toNat : Int), .int .u8 (sf.toNat : Int), .int .u16 (sz.toNat : Int), .int .u16 (su.toNat : Int), .slice A1 n1 c1, .slice A2 n2 c2], .agg #[.int .u64 (x0 : Int), .int .u64 (x1 : Int)]] w fun e w' => e = .returned (.bool true) ∧ Below w.heap.size w w' := by
  have HF := fun W => Lib.hid (tfew_any sa sb sq sk sr sf sz su A1 A2 n1 c1 n2 c2 os.length xs.length W hlc hcc hlc2 hcc2 hm hm2)
  obtain ⟨R, hR⟩ := runs_some os os.length 0 [] (by omega)
  obtain ⟨ix, hio⟩ : ∃ ix, offI (mssN R.1) = ix := ⟨_, rfl⟩
  have hi8 : ix < 8 := by rw [← hio]; exact offI_lt _
  obtain ⟨vv, hvv⟩ : ∃ vv : UInt32, ckN lo hi (ckB s d p q r sq) (ckR ep 32) ix = vv.toNat := ⟨UInt32.ofNat (ckN lo hi (ckB s d p q r sq) (ckR ep 32) ix), by have := ckN_lt lo hi (ckB s d p q r sq) (ckR ep 32) ix (Nat.mod_lt _ (by decide)) hi8; simp; omega⟩
  obtain ⟨sq1, hs1, hs2⟩ := u32_succ sq
  obtain ⟨v1, hv1, hv2⟩ := u32_succ vv
  have HO := fun W h hs => Lib.hid (poffer_any lo hi lo2 hi2 h1 h2 ep s d p q r sa sb sq sk sr sf sz su A1 A2 os c1 xs.length c2 R hR (by omega) ix hio vv hvv sq1 hs1 W h hs)
  have HA1 : ∀ W, Hid (Calls Tryd.prog 23 #[.agg #[.int .u64 (lo : Int), .int .u64 (hi : Int), .int .u64 (lo2 : Int), .int .u64 (hi2 : Int), .int .i64 ep], .agg #[.int .u32 (s.toNat : Int), .int .u32 (d.toNat : Int), .int .u16 (p.toNat : Int), .int .u16 (q.toNat : Int), .int .u8 (r.toNat : Int)], .agg #[.int .u16 (p.toNat : Int), .int .u16 (q.toNat : Int), .int .u32 (sq1.toNat : Int), .int .u32 (v1.toNat : Int), .int .u8 0, .int .u8 16, .int .u16 0, .int .u16 0, .slice none 0 0, .slice none 0 0]] W fun e w' => e = .returned (.tuple #[.int .i64 (ix : Int), .bool true]) ∧ Below W.heap.size W w') := by
    intro W
    obtain ⟨z8, ez8⟩ : ∃ x : UInt8, (x.toNat : Int) = 0 := ⟨0, rfl⟩
    obtain ⟨z16, ez16⟩ : ∃ x : UInt16, (x.toNat : Int) = 0 := ⟨0, rfl⟩
    obtain ⟨x16, ex16, g16, g2, g4⟩ : ∃ x : UInt8, (x.toNat : Int) = 16 ∧ hasB x 16 = true ∧ hasB x 2 = false ∧ hasB x 4 = false := ⟨16, rfl, by decide, by decide, by decide⟩
    have h5 := paccept_ok lo hi lo2 hi2 h1 h2 h3 h4 ep s d p q r p q sq1 v1 z8 x16 z16 z16 none none 0 0 0 0 g16 g2 g4 sq hs2 vv.toNat hv2 vv.toNat_lt (by omega) true rfl (by rw [← hvv]; exact right_now _ _ _ _ _ _ _ hi8) W
    rw [show vv.toNat / 16777216 % 8 = ix by rw [← hvv]; exact ckN_i _ _ _ _ _ hi8] at h5
    simp only [ez16, ez8, ex16] at h5
    exact h5
  obtain ⟨ep1, he1⟩ : ∃ x, ep + 1 = x := ⟨_, rfl⟩
  have HA2 : ∀ W, Hid (Calls Tryd.prog 23 #[.agg #[.int .u64 (x0 : Int), .int .u64 (x1 : Int), .int .u64 (lo : Int), .int .u64 (hi : Int), .int .i64 ep1], .agg #[.int .u32 (s.toNat : Int), .int .u32 (d.toNat : Int), .int .u16 (p.toNat : Int), .int .u16 (q.toNat : Int), .int .u8 (r.toNat : Int)], .agg #[.int .u16 (p.toNat : Int), .int .u16 (q.toNat : Int), .int .u32 (sq1.toNat : Int), .int .u32 (v1.toNat : Int), .int .u8 0, .int .u8 16, .int .u16 0, .int .u16 0, .slice none 0 0, .slice none 0 0]] W fun e w' => e = .returned (.tuple #[.int .i64 (ix : Int), .bool true]) ∧ Below W.heap.size W w') := by
    intro W
    obtain ⟨z8, ez8⟩ : ∃ x : UInt8, (x.toNat : Int) = 0 := ⟨0, rfl⟩
    obtain ⟨z16, ez16⟩ : ∃ x : UInt16, (x.toNat : Int) = 0 := ⟨0, rfl⟩
    obtain ⟨x16, ex16, g16, g2, g4⟩ : ∃ x : UInt8, (x.toNat : Int) = 16 ∧ hasB x 16 = true ∧ hasB x 2 = false ∧ hasB x 4 = false := ⟨16, rfl, by decide, by decide, by decide⟩
    have h5 := paccept_ok x0 x1 lo hi hx0 hx1 h1 h2 (ep + 1) s d p q r p q sq1 v1 z8 x16 z16 z16 none none 0 0 0 0 g16 g2 g4 sq hs2 vv.toNat hv2 vv.toNat_lt (by omega) true rfl (by rw [← hvv]; exact right_last _ _ _ _ _ _ _ hi8 h0) W
    rw [show vv.toNat / 16777216 % 8 = ix by rw [← hvv]; exact ckN_i _ _ _ _ _ hi8, he1] at h5
    simp only [ez16, ez8, ex16] at h5
    exact h5
  have HFR : ∀ W, Hid (Calls Tryd.prog 21 #[.agg #[.int .u64 (lo : Int), .int .u64 (hi : Int), .int .u64 (lo2 : Int), .int .u64 (hi2 : Int), .int .i64 ep], .agg #[.int .u64 (x0 : Int), .int .u64 (x1 : Int)]] W fun e w' => e = .returned (.agg #[.int .u64 (x0 : Int), .int .u64 (x1 : Int), .int .u64 (lo : Int), .int .u64 (hi : Int), .int .i64 ep1]) ∧ Below W.heap.size W w') := fun W => by
    have h5 := cfresh_any lo hi lo2 hi2 ep (x0 : Int) (x1 : Int) h0 h9 W
    rw [he1] at h5
    exact h5
  have HRS : ∀ W, Hid (Calls Tryd.prog 16 #[.int .i64 (ix : Int)] W fun e w' => e = .returned (.int .u16 ((szU ix).toNat : Int)) ∧ Below W.heap.size W w') := fun W => by
    have h5 := rsize_at ix hi8 W
    rw [szU_at ix hi8] at h5
    exact h5
  have HOP : ∀ W, Hid (Calls Tryd.prog 29 #[.agg #[.int .u32 (s.toNat : Int), .int .u32 (d.toNat : Int), .int .u16 (p.toNat : Int), .int .u16 (q.toNat : Int), .int .u8 (r.toNat : Int)], .int .i64 1, .int .u16 2, .agg #[.int .u16 (p.toNat : Int), .int .u16 (q.toNat : Int), .int .u32 (sq1.toNat : Int), .int .u32 (v1.toNat : Int), .int .u8 0, .int .u8 16, .int .u16 0, .int .u16 0, .slice none 0 0, .slice none 0 0]] W fun e w' => e = .returned (.agg #[.int .u32 (s.toNat : Int), .int .u32 (d.toNat : Int), .int .u16 (p.toNat : Int), .int .u16 (q.toNat : Int), .int .u8 (r.toNat : Int), .int .i64 1, .int .i64 1, .int .i64 0, .bool true, .bool false, .int .u16 2, .int .u32 (vv.toNat : Int), .int .u32 (sq.toNat : Int)]) ∧ Below W.heap.size W w') := by
    intro W
    obtain ⟨z8, ez8⟩ : ∃ x : UInt8, (x.toNat : Int) = 0 := ⟨0, rfl⟩
    obtain ⟨z16, ez16⟩ : ∃ x : UInt16, (x.toNat : Int) = 0 := ⟨0, rfl⟩
    obtain ⟨x16, ex16, g16, g2, g4⟩ : ∃ x : UInt8, (x.toNat : Int) = 16 ∧ hasB x 16 = true ∧ hasB x 2 = false ∧ hasB x 4 = false := ⟨16, rfl, by decide, by decide, by decide⟩
    have h5 := popen_any s d p q r 1 2 p q sq1 v1 z8 x16 z16 z16 none none 0 0 0 0 vv sq hv2 hs2 W
    simp only [ez16, ez8, ex16] at h5
    exact h5
  have HT : ∀ L : List UInt8, (hL : L = [2, 4] ++ be16 (szU ix)) → ((L[2]'(by rw [hL]; exact (by decide : 2 < 4))).toNat : Int) = (szU ix).toNat / 256 ∧ ((L[3]'(by rw [hL]; exact (by decide : 3 < 4))).toNat : Int) = (szU ix).toNat % 256 := by
    rintro _ rfl
    have := (szU ix).toNat_lt
    constructor
    · simp [be16]; omega
    · simp [be16]
  have hzz := (szU ix).toNat_lt
  generalize szU ix = z at HRS HT HO hzz
  have hz2 : Hid (((z.toNat : Int) / 256) % 256 = (z.toNat : Int) / 256) := by simp only [Hid]; omega
  have hz3 : Hid (((z.toNat : Int) % 256) % 256 = (z.toNat : Int) % 256) := by simp only [Hid]; omega
  have a1 : decide (ep < 0) = false := by simp; omega
  have a2 : decide (1073741823 < ep) = false := by simp; omega
  have hs1' := Lib.hid hs1
  have hv1' := Lib.hid hv1
  clear hlc hcc hm hlc2 hcc2 hm2 hR hio hi8 hvv hs1 hs2 hv1 hv2 he1 hzz h0 h9 h1 h2 h3 h4 hx0 hx1 hol
  obtain ⟨V, hV⟩ : ∃ V, V = ((((w.alloc (.cells #[.int .u64 (lo : Int), .int .u64 (hi : Int), .int .u64 (lo2 : Int), .int .u64 (hi2 : Int), .int .i64 ep] 36)).alloc (.cells #[.int .u32 (s.toNat : Int), .int .u32 (d.toNat : Int), .int .u16 (p.toNat : Int), .int .u16 (q.toNat : Int), .int .u8 (r.toNat : Int)] 28)).alloc (.cells #[.int .u16 (sa.toNat : Int), .int .u16 (sb.toNat : Int), .int .u32 (sq.toNat : Int), .int .u32 (sk.toNat : Int), .int .u8 (sr.toNat : Int), .int .u8 (sf.toNat : Int), .int .u16 (sz.toNat : Int), .int .u16 (su.toNat : Int), .slice A1 n1 c1, .slice A2 n2 c2] 44)).alloc (.cells #[.int .u64 (x0 : Int), .int .u64 (x1 : Int)] 24)) := ⟨_, rfl⟩
  have hB : Below w.heap.size w V := by subst hV; exact (bnextA (bnextA (bnextA (bnextA (Below.refl _ _) _) _) _) _)
  have KS : Blk V (w.heap.size) [.int .u64 (lo : Int), .int .u64 (hi : Int), .int .u64 (lo2 : Int), .int .u64 (hi2 : Int), .int .i64 ep] 36 := by subst hV; simpa using (((Blk.new w #[.int .u64 (lo : Int), .int .u64 (hi : Int), .int .u64 (lo2 : Int), .int .u64 (hi2 : Int), .int .i64 ep] 36).alloc (.cells #[.int .u32 (s.toNat : Int), .int .u32 (d.toNat : Int), .int .u16 (p.toNat : Int), .int .u16 (q.toNat : Int), .int .u8 (r.toNat : Int)] 28)).alloc (.cells #[.int .u16 (sa.toNat : Int), .int .u16 (sb.toNat : Int), .int .u32 (sq.toNat : Int), .int .u32 (sk.toNat : Int), .int .u8 (sr.toNat : Int), .int .u8 (sf.toNat : Int), .int .u16 (sz.toNat : Int), .int .u16 (su.toNat : Int), .slice A1 n1 c1, .slice A2 n2 c2] 44)).alloc (.cells #[.int .u64 (x0 : Int), .int .u64 (x1 : Int)] 24)
  have KF : Blk V (w.heap.size + 1) [.int .u32 (s.toNat : Int), .int .u32 (d.toNat : Int), .int .u16 (p.toNat : Int), .int .u16 (q.toNat : Int), .int .u8 (r.toNat : Int)] 28 := by subst hV; simpa using ((Blk.new (w.alloc (.cells #[.int .u64 (lo : Int), .int .u64 (hi : Int), .int .u64 (lo2 : Int), .int .u64 (hi2 : Int), .int .i64 ep] 36)) #[.int .u32 (s.toNat : Int), .int .u32 (d.toNat : Int), .int .u16 (p.toNat : Int), .int .u16 (q.toNat : Int), .int .u8 (r.toNat : Int)] 28).alloc (.cells #[.int .u16 (sa.toNat : Int), .int .u16 (sb.toNat : Int), .int .u32 (sq.toNat : Int), .int .u32 (sk.toNat : Int), .int .u8 (sr.toNat : Int), .int .u8 (sf.toNat : Int), .int .u16 (sz.toNat : Int), .int .u16 (su.toNat : Int), .slice A1 n1 c1, .slice A2 n2 c2] 44)).alloc (.cells #[.int .u64 (x0 : Int), .int .u64 (x1 : Int)] 24)
  have KG : Blk V (w.heap.size + 2) [.int .u16 (sa.toNat : Int), .int .u16 (sb.toNat : Int), .int .u32 (sq.toNat : Int), .int .u32 (sk.toNat : Int), .int .u8 (sr.toNat : Int), .int .u8 (sf.toNat : Int), .int .u16 (sz.toNat : Int), .int .u16 (su.toNat : Int), .slice A1 n1 c1, .slice A2 n2 c2] 44 := by subst hV; simpa using (Blk.new ((w.alloc (.cells #[.int .u64 (lo : Int), .int .u64 (hi : Int), .int .u64 (lo2 : Int), .int .u64 (hi2 : Int), .int .i64 ep] 36)).alloc (.cells #[.int .u32 (s.toNat : Int), .int .u32 (d.toNat : Int), .int .u16 (p.toNat : Int), .int .u16 (q.toNat : Int), .int .u8 (r.toNat : Int)] 28)) #[.int .u16 (sa.toNat : Int), .int .u16 (sb.toNat : Int), .int .u32 (sq.toNat : Int), .int .u32 (sk.toNat : Int), .int .u8 (sr.toNat : Int), .int .u8 (sf.toNat : Int), .int .u16 (sz.toNat : Int), .int .u16 (su.toNat : Int), .slice A1 n1 c1, .slice A2 n2 c2] 44).alloc (.cells #[.int .u64 (x0 : Int), .int .u64 (x1 : Int)] 24)
  have KX : Blk V (w.heap.size + 3) [.int .u64 (x0 : Int), .int .u64 (x1 : Int)] 24 := by subst hV; simpa using Blk.new (((w.alloc (.cells #[.int .u64 (lo : Int), .int .u64 (hi : Int), .int .u64 (lo2 : Int), .int .u64 (hi2 : Int), .int .i64 ep] 36)).alloc (.cells #[.int .u32 (s.toNat : Int), .int .u32 (d.toNat : Int), .int .u16 (p.toNat : Int), .int .u16 (q.toNat : Int), .int .u8 (r.toNat : Int)] 28)).alloc (.cells #[.int .u16 (sa.toNat : Int), .int .u16 (sb.toNat : Int), .int .u32 (sq.toNat : Int), .int .u32 (sk.toNat : Int), .int .u8 (sr.toNat : Int), .int .u8 (sf.toNat : Int), .int .u16 (sz.toNat : Int), .int .u16 (su.toNat : Int), .slice A1 n1 c1, .slice A2 n2 c2] 44)) #[.int .u64 (x0 : Int), .int .u64 (x1 : Int)] 24
  obtain ⟨k0, k1, k2, k3, k4, -⟩ := KS.get5
  obtain ⟨z0, z1, z2, z3, z4, z5, z6, z7, z8, z9, -⟩ := KG.get10
  go_enter Tryd.func8, Tryd.ntmps8
  go_wp2_with fail
  rw [← hV]
  clear hV
  refine (HF _).out.mono ?_
  rintro e w1 ⟨rfl, hb⟩
  replace hB := bnext hB hb
  replace KS := KS.next hb
  replace KF := KF.next hb
  replace KG := KG.next hb
  replace KX := KX.next hb
  clear hb HF k0 k1 k2 k3 k4 z0 z1 z2 z3 z4 z5 z6 z7 z8 z9
  obtain ⟨z0, z1, z2, z3, z4, z5, z6, z7, z8, z9, b0, b1, b2, b3, b4, b5, b6, b7, b8, b9⟩ := KG.get10
  have hBV := bset10 hB (show w.heap.size ≤ w.heap.size + 2 by omega) (.int .u16 (sa.toNat : Int)) (.int .u16 (sb.toNat : Int)) (.int .u32 (sq.toNat : Int)) (.int .u32 (sk.toNat : Int)) (.int .u8 (sr.toNat : Int)) (.int .u8 (sf.toNat : Int)) (.int .u16 (sz.toNat : Int)) (.int .u16 (su.toNat : Int)) (.slice A1 os.length c1) (.slice A2 xs.length c2)
  have KSV := KS.oth10 (g' := w.heap.size + 2) (by omega) (u0 := .int .u16 (sa.toNat : Int)) (u1 := .int .u16 (sb.toNat : Int)) (u2 := .int .u32 (sq.toNat : Int)) (u3 := .int .u32 (sk.toNat : Int)) (u4 := .int .u8 (sr.toNat : Int)) (u5 := .int .u8 (sf.toNat : Int)) (u6 := .int .u16 (sz.toNat : Int)) (u7 := .int .u16 (su.toNat : Int)) (u8 := .slice A1 os.length c1) (u9 := .slice A2 xs.length c2)
  have KFV := KF.oth10 (g' := w.heap.size + 2) (by omega) (u0 := .int .u16 (sa.toNat : Int)) (u1 := .int .u16 (sb.toNat : Int)) (u2 := .int .u32 (sq.toNat : Int)) (u3 := .int .u32 (sk.toNat : Int)) (u4 := .int .u8 (sr.toNat : Int)) (u5 := .int .u8 (sf.toNat : Int)) (u6 := .int .u16 (sz.toNat : Int)) (u7 := .int .u16 (su.toNat : Int)) (u8 := .slice A1 os.length c1) (u9 := .slice A2 xs.length c2)
  have KXV := KX.oth10 (g' := w.heap.size + 2) (by omega) (u0 := .int .u16 (sa.toNat : Int)) (u1 := .int .u16 (sb.toNat : Int)) (u2 := .int .u32 (sq.toNat : Int)) (u3 := .int .u32 (sk.toNat : Int)) (u4 := .int .u8 (sr.toNat : Int)) (u5 := .int .u8 (sf.toNat : Int)) (u6 := .int .u16 (sz.toNat : Int)) (u7 := .int .u16 (su.toNat : Int)) (u8 := .slice A1 os.length c1) (u9 := .slice A2 xs.length c2)
  have KGV := KG.set10 (u0 := .int .u16 (sa.toNat : Int)) (u1 := .int .u16 (sb.toNat : Int)) (u2 := .int .u32 (sq.toNat : Int)) (u3 := .int .u32 (sk.toNat : Int)) (u4 := .int .u8 (sr.toNat : Int)) (u5 := .int .u8 (sf.toNat : Int)) (u6 := .int .u16 (sz.toNat : Int)) (u7 := .int .u16 (su.toNat : Int)) (u8 := .slice A1 os.length c1) (u9 := .slice A2 xs.length c2)
  simp only [setAll10] at hBV KSV KFV KXV KGV
  clear KS KF KG KX hB
  obtain ⟨k0, k1, k2, k3, k4, -⟩ := KSV.get5
  obtain ⟨f0, f1, f2, f3, f4, -⟩ := KFV.get5
  obtain ⟨y0, y1, y2, y3, y4, y5, y6, y7, y8, y9, -⟩ := KGV.get10
  go_wp2_with fail
  clear z0 z1 z2 z3 z4 z5 z6 z7 z8 z9 b0 b1 b2 b3 b4 b5 b6 b7 b8 b9 y0 y1 y2 y3 y4 y5 y6 y7 y8 y9 k0 k1 k2 k3 k4 f0 f1 f2 f3 f4
  generalize (((((((((w1.setCell ⟨w.heap.size + 2, 0, none⟩ (.int .u16 (sa.toNat : Int))).setCell ⟨w.heap.size + 2, 1, none⟩ (.int .u16 (sb.toNat : Int))).setCell ⟨w.heap.size + 2, 2, none⟩ (.int .u32 (sq.toNat : Int))).setCell ⟨w.heap.size + 2, 3, none⟩ (.int .u32 (sk.toNat : Int))).setCell ⟨w.heap.size + 2, 4, none⟩ (.int .u8 (sr.toNat : Int))).setCell ⟨w.heap.size + 2, 5, none⟩ (.int .u8 (sf.toNat : Int))).setCell ⟨w.heap.size + 2, 6, none⟩ (.int .u16 (sz.toNat : Int))).setCell ⟨w.heap.size + 2, 7, none⟩ (.int .u16 (su.toNat : Int))).setCell ⟨w.heap.size + 2, 8, none⟩ (.slice A1 os.length c1)).setCell ⟨w.heap.size + 2, 9, none⟩ (.slice A2 xs.length c2) = V1 at hBV KSV KFV KXV KGV ⊢
  refine (HO _ (ho0.next hBV) (hS.next hBV)).out.mono ?_
  rintro e w2 ⟨L, AL, cL, rfl, HL, rL, hb⟩
  have hl4 : Hid (L.length = 4) := by simp only [Hid]; rw [HL.out]; rfl
  rw [hl4.out]
  have hB := bnextA (bnext hBV hb) (.cells #[.int .u16 (q.toNat : Int), .int .u16 (p.toNat : Int), .int .u32 (vv.toNat : Int), .int .u32 (sq1.toNat : Int), .int .u8 0, .int .u8 18, .int .u16 65535, .int .u16 0, .slice AL 4 cL, .slice none 0 0] 44)
  have KS := (KSV.next hb).alloc (.cells #[.int .u16 (q.toNat : Int), .int .u16 (p.toNat : Int), .int .u32 (vv.toNat : Int), .int .u32 (sq1.toNat : Int), .int .u8 0, .int .u8 18, .int .u16 65535, .int .u16 0, .slice AL 4 cL, .slice none 0 0] 44)
  have KF := (KFV.next hb).alloc (.cells #[.int .u16 (q.toNat : Int), .int .u16 (p.toNat : Int), .int .u32 (vv.toNat : Int), .int .u32 (sq1.toNat : Int), .int .u8 0, .int .u8 18, .int .u16 65535, .int .u16 0, .slice AL 4 cL, .slice none 0 0] 44)
  have KG := (KGV.next hb).alloc (.cells #[.int .u16 (q.toNat : Int), .int .u16 (p.toNat : Int), .int .u32 (vv.toNat : Int), .int .u32 (sq1.toNat : Int), .int .u8 0, .int .u8 18, .int .u16 65535, .int .u16 0, .slice AL 4 cL, .slice none 0 0] 44)
  have KX := (KXV.next hb).alloc (.cells #[.int .u16 (q.toNat : Int), .int .u16 (p.toNat : Int), .int .u32 (vv.toNat : Int), .int .u32 (sq1.toNat : Int), .int .u8 0, .int .u8 18, .int .u16 65535, .int .u16 0, .slice AL 4 cL, .slice none 0 0] 44)
  have KO := Blk.new w2 #[.int .u16 (q.toNat : Int), .int .u16 (p.toNat : Int), .int .u32 (vv.toNat : Int), .int .u32 (sq1.toNat : Int), .int .u8 0, .int .u8 18, .int .u16 65535, .int .u16 0, .slice AL 4 cL, .slice none 0 0] 44
  replace rL := rL.nextA (.cells #[.int .u16 (q.toNat : Int), .int .u16 (p.toNat : Int), .int .u32 (vv.toNat : Int), .int .u32 (sq1.toNat : Int), .int .u8 0, .int .u8 18, .int .u16 65535, .int .u16 0, .slice AL 4 cL, .slice none 0 0] 44)
  clear hb hBV KSV KFV KXV KGV HO ho0
  have p2 := KF.cell 2
  have p3 := KF.cell 3
  have p4 := KG.cell 2
  have p5 := KO.cell 2
  simp only [List.getElem?_cons_succ, List.getElem?_cons_zero] at p2 p3 p4 p5
  replace hB := bnextA hB (.cells #[.int .u16 (p.toNat : Int), .int .u16 (q.toNat : Int), .int .u32 (sq1.toNat : Int), .int .u32 (v1.toNat : Int), .int .u8 0, .int .u8 16, .int .u16 0, .int .u16 0, .slice none 0 0, .slice none 0 0] 44)
  replace KS := KS.alloc (.cells #[.int .u16 (p.toNat : Int), .int .u16 (q.toNat : Int), .int .u32 (sq1.toNat : Int), .int .u32 (v1.toNat : Int), .int .u8 0, .int .u8 16, .int .u16 0, .int .u16 0, .slice none 0 0, .slice none 0 0] 44)
  replace KF := KF.alloc (.cells #[.int .u16 (p.toNat : Int), .int .u16 (q.toNat : Int), .int .u32 (sq1.toNat : Int), .int .u32 (v1.toNat : Int), .int .u8 0, .int .u8 16, .int .u16 0, .int .u16 0, .slice none 0 0, .slice none 0 0] 44)
  replace KG := KG.alloc (.cells #[.int .u16 (p.toNat : Int), .int .u16 (q.toNat : Int), .int .u32 (sq1.toNat : Int), .int .u32 (v1.toNat : Int), .int .u8 0, .int .u8 16, .int .u16 0, .int .u16 0, .slice none 0 0, .slice none 0 0] 44)
  replace KX := KX.alloc (.cells #[.int .u16 (p.toNat : Int), .int .u16 (q.toNat : Int), .int .u32 (sq1.toNat : Int), .int .u32 (v1.toNat : Int), .int .u8 0, .int .u8 16, .int .u16 0, .int .u16 0, .slice none 0 0, .slice none 0 0] 44)
  replace KO := KO.alloc (.cells #[.int .u16 (p.toNat : Int), .int .u16 (q.toNat : Int), .int .u32 (sq1.toNat : Int), .int .u32 (v1.toNat : Int), .int .u8 0, .int .u8 16, .int .u16 0, .int .u16 0, .slice none 0 0, .slice none 0 0] 44)
  replace rL := rL.nextA (.cells #[.int .u16 (p.toNat : Int), .int .u16 (q.toNat : Int), .int .u32 (sq1.toNat : Int), .int .u32 (v1.toNat : Int), .int .u8 0, .int .u8 16, .int .u16 0, .int .u16 0, .slice none 0 0, .slice none 0 0] 44)
  have KA : Blk ((w2.alloc (.cells #[.int .u16 (q.toNat : Int), .int .u16 (p.toNat : Int), .int .u32 (vv.toNat : Int), .int .u32 (sq1.toNat : Int), .int .u8 0, .int .u8 18, .int .u16 65535, .int .u16 0, .slice AL 4 cL, .slice none 0 0] 44)).alloc (.cells #[.int .u16 (p.toNat : Int), .int .u16 (q.toNat : Int), .int .u32 (sq1.toNat : Int), .int .u32 (v1.toNat : Int), .int .u8 0, .int .u8 16, .int .u16 0, .int .u16 0, .slice none 0 0, .slice none 0 0] 44)) (w2.heap.size + 1) [.int .u16 (p.toNat : Int), .int .u16 (q.toNat : Int), .int .u32 (sq1.toNat : Int), .int .u32 (v1.toNat : Int), .int .u8 0, .int .u8 16, .int .u16 0, .int .u16 0, .slice none 0 0, .slice none 0 0] 44 := by simpa using Blk.new (w2.alloc (.cells #[.int .u16 (q.toNat : Int), .int .u16 (p.toNat : Int), .int .u32 (vv.toNat : Int), .int .u32 (sq1.toNat : Int), .int .u8 0, .int .u8 18, .int .u16 65535, .int .u16 0, .slice AL 4 cL, .slice none 0 0] 44)) #[.int .u16 (p.toNat : Int), .int .u16 (q.toNat : Int), .int .u32 (sq1.toNat : Int), .int .u32 (v1.toNat : Int), .int .u8 0, .int .u8 16, .int .u16 0, .int .u16 0, .slice none 0 0, .slice none 0 0] 44
  obtain ⟨k0, k1, k2, k3, k4, -⟩ := KS.get5
  obtain ⟨f0, f1, f2, f3, f4, -⟩ := KF.get5
  obtain ⟨z0, z1, z2, z3, z4, z5, z6, z7, z8, z9, -⟩ := KA.get10
  have i1 := hs1'.out
  have i2 := hv1'.out
  go_wp2_with fail
  refine (HA1 _).out.mono ?_
  rintro e w3 ⟨rfl, hb⟩
  replace hB := bnext hB hb
  replace KS := KS.next hb
  replace KF := KF.next hb
  replace KG := KG.next hb
  replace KX := KX.next hb
  replace KO := KO.next hb
  replace KA := KA.next hb
  replace rL := rL.next hb
  clear hb HA1 k0 k1 k2 k3 k4 f0 f1 f2 f3 f4 z0 z1 z2 z3 z4 z5 z6 z7 z8 z9 p2 p3 p4 p5 i1 i2
  go_wp2_with fail
  generalize w3 = V4 at *
  generalize w2.heap.size + 1 = ga at *
  generalize w2.heap.size = go at *
  refine region_put (by kernel_rfl) (by kernel_rfl) (by kernel_rfl) 116 rfl (by kernel_rfl) V4 (fun i v W => match i with
      | 0 => v = .agg #[.int .u64 (lo : Int), .int .u64 (hi : Int), .int .u64 (lo2 : Int), .int .u64 (hi2 : Int), .int .i64 ep]
      | 1 => v = .agg #[.int .u64 (x0 : Int), .int .u64 (x1 : Int)]
      | 2 => v = .agg #[.int .u64 (x0 : Int), .int .u64 (x1 : Int), .int .u64 (lo : Int), .int .u64 (hi : Int), .int .i64 ep1]
      | 3 => v = .agg #[.int .u32 (s.toNat : Int), .int .u32 (d.toNat : Int), .int .u16 (p.toNat : Int), .int .u16 (q.toNat : Int), .int .u8 (r.toNat : Int)]
      | 4 => v = .agg #[.int .u16 (p.toNat : Int), .int .u16 (q.toNat : Int), .int .u32 (sq1.toNat : Int), .int .u32 (v1.toNat : Int), .int .u8 0, .int .u8 16, .int .u16 0, .int .u16 0, .slice none 0 0, .slice none 0 0]
      | 5 => v = .tuple #[.int .i64 (ix : Int), .bool true]
      | 6 => v = .tuple #[.int .i64 (ix : Int), .bool true]
      | 7 => v = .int .i64 (ix : Int)
      | 8 => v = .bool true
      | 9 => v = .int .i64 (ix : Int)
      | 10 => v = .bool true
      | _ => True) (Below.refl _ _) ?_ ?_ ?_
  · intro i v W W' h hb
    match i, h with
    | 0, h => exact h
    | 1, h => exact h
    | 2, h => exact h
    | 3, h => exact h
    | 4, h => exact h
    | 5, h => exact h
    | 6, h => exact h
    | 7, h => exact h
    | 8, h => exact h
    | 9, h => exact h
    | 10, h => exact h
    | _ + 11, _ => trivial
  · intro i o uu W hoo hVW hd
    rcases i with _|_|_|_|_|_|_|_|_|_|_|i
    · obtain rfl := Option.some.inj hoo
      refine .inl ⟨wanted_none rfl, ?_⟩
      generalize hev : Act.eval _ = ev
      have ec : ∀ c, ev (.const c) = c := fun c => by rw [← hev]; rfl
      have e4 : ev (.tmp 4) = .pointer (some ⟨w.heap.size, 0, none⟩) := by rw [← hev]; exact eval_old (by kernel_rfl) 116 rfl (by decide) rfl
      clear hev hd
      exact .inl ⟨_, W, load_blk Tryd.underlying36 (by kernel_rfl) (KS.next hVW) rfl e4, rfl, Below.refl _ _⟩
    · obtain rfl := Option.some.inj hoo
      refine .inl ⟨wanted_none rfl, ?_⟩
      generalize hev : Act.eval _ = ev
      have ec : ∀ c, ev (.const c) = c := fun c => by rw [← hev]; rfl
      have e7 : ev (.tmp 7) = .pointer (some ⟨w.heap.size + 3, 0, none⟩) := by rw [← hev]; exact eval_old (by kernel_rfl) 116 rfl (by decide) rfl
      clear hev hd
      exact .inl ⟨_, W, load_blk Tryd.underlying24 (by kernel_rfl) (KX.next hVW) rfl e7, rfl, Below.refl _ _⟩
    · obtain rfl := Option.some.inj hoo
      have q0 : uu 0 = .agg #[.int .u64 (lo : Int), .int .u64 (hi : Int), .int .u64 (lo2 : Int), .int .u64 (hi2 : Int), .int .i64 ep] := hd 0 (by kernel_rfl)
      have q1 : uu 1 = .agg #[.int .u64 (x0 : Int), .int .u64 (x1 : Int)] := hd 1 (by kernel_rfl)
      refine .inl ⟨wanted_none rfl, ?_⟩
      generalize hev : Act.eval _ = ev
      have ec : ∀ c, ev (.const c) = c := fun c => by rw [← hev]; rfl
      have ef : ∀ f, ev (.func f) = .func (.func f) #[] #[] := fun f => by rw [← hev]; rfl
      have e51 : ev (.tmp 51) = .agg #[.int .u64 (lo : Int), .int .u64 (hi : Int), .int .u64 (lo2 : Int), .int .u64 (hi2 : Int), .int .i64 ep] := by rw [← hev]; exact (eval_put (by kernel_rfl) 116 rfl (by decide)).trans q0
      have e52 : ev (.tmp 52) = .agg #[.int .u64 (x0 : Int), .int .u64 (x1 : Int)] := by rw [← hev]; exact (eval_put (by kernel_rfl) 116 rfl (by decide)).trans q1
      clear hev hd q0 q1
      exact .inr ⟨_, _, _, by go_simp, (HFR W).out, fun e w' he => ⟨_, he.1, rfl, he.2⟩⟩
    · obtain rfl := Option.some.inj hoo
      refine .inl ⟨wanted_none rfl, ?_⟩
      generalize hev : Act.eval _ = ev
      have ec : ∀ c, ev (.const c) = c := fun c => by rw [← hev]; rfl
      have e5 : ev (.tmp 5) = .pointer (some ⟨w.heap.size + 1, 0, none⟩) := by rw [← hev]; exact eval_old (by kernel_rfl) 116 rfl (by decide) rfl
      clear hev hd
      exact .inl ⟨_, W, load_blk Tryd.underlying28 (by kernel_rfl) (KF.next hVW) rfl e5, rfl, Below.refl _ _⟩
    · obtain rfl := Option.some.inj hoo
      refine .inl ⟨wanted_none rfl, ?_⟩
      generalize hev : Act.eval _ = ev
      have ec : ∀ c, ev (.const c) = c := fun c => by rw [← hev]; rfl
      have e10 : ev (.tmp 10) = .pointer (some ⟨ga, 0, none⟩) := by rw [← hev]; exact eval_old (by kernel_rfl) 116 rfl (by decide) rfl
      clear hev hd
      exact .inl ⟨_, W, load_blk Tryd.underlying44 (by kernel_rfl) (KA.next hVW) rfl e10, rfl, Below.refl _ _⟩
    · obtain rfl := Option.some.inj hoo
      have q2 : uu 2 = .agg #[.int .u64 (x0 : Int), .int .u64 (x1 : Int), .int .u64 (lo : Int), .int .u64 (hi : Int), .int .i64 ep1] := hd 2 (by kernel_rfl)
      have q3 : uu 3 = .agg #[.int .u32 (s.toNat : Int), .int .u32 (d.toNat : Int), .int .u16 (p.toNat : Int), .int .u16 (q.toNat : Int), .int .u8 (r.toNat : Int)] := hd 3 (by kernel_rfl)
      have q4 : uu 4 = .agg #[.int .u16 (p.toNat : Int), .int .u16 (q.toNat : Int), .int .u32 (sq1.toNat : Int), .int .u32 (v1.toNat : Int), .int .u8 0, .int .u8 16, .int .u16 0, .int .u16 0, .slice none 0 0, .slice none 0 0] := hd 4 (by kernel_rfl)
      refine .inl ⟨wanted_none rfl, ?_⟩
      generalize hev : Act.eval _ = ev
      have ec : ∀ c, ev (.const c) = c := fun c => by rw [← hev]; rfl
      have ef : ∀ f, ev (.func f) = .func (.func f) #[] #[] := fun f => by rw [← hev]; rfl
      have e53 : ev (.tmp 53) = .agg #[.int .u64 (x0 : Int), .int .u64 (x1 : Int), .int .u64 (lo : Int), .int .u64 (hi : Int), .int .i64 ep1] := by rw [← hev]; exact (eval_put (by kernel_rfl) 116 rfl (by decide)).trans q2
      have e54 : ev (.tmp 54) = .agg #[.int .u32 (s.toNat : Int), .int .u32 (d.toNat : Int), .int .u16 (p.toNat : Int), .int .u16 (q.toNat : Int), .int .u8 (r.toNat : Int)] := by rw [← hev]; exact (eval_put (by kernel_rfl) 116 rfl (by decide)).trans q3
      have e55 : ev (.tmp 55) = .agg #[.int .u16 (p.toNat : Int), .int .u16 (q.toNat : Int), .int .u32 (sq1.toNat : Int), .int .u32 (v1.toNat : Int), .int .u8 0, .int .u8 16, .int .u16 0, .int .u16 0, .slice none 0 0, .slice none 0 0] := by rw [← hev]; exact (eval_put (by kernel_rfl) 116 rfl (by decide)).trans q4
      clear hev hd q2 q3 q4
      exact .inr ⟨_, _, _, by go_simp, (HA2 W).out, fun e w' he => ⟨_, he.1, rfl, he.2⟩⟩
    · obtain rfl := Option.some.inj hoo
      have q5 : uu 5 = .tuple #[.int .i64 (ix : Int), .bool true] := hd 5 (by kernel_rfl)
      refine .inl ⟨wanted_none rfl, ?_⟩
      generalize hev : Act.eval _ = ev
      have ec : ∀ c, ev (.const c) = c := fun c => by rw [← hev]; rfl
      have e56 : ev (.tmp 56) = .tuple #[.int .i64 (ix : Int), .bool true] := by rw [← hev]; exact (eval_put (by kernel_rfl) 116 rfl (by decide)).trans q5
      clear hev hd q5
      exact .inl ⟨_, W, by go_simp, rfl, Below.refl _ _⟩
    · obtain rfl := Option.some.inj hoo
      have q6 : uu 6 = .tuple #[.int .i64 (ix : Int), .bool true] := hd 6 (by kernel_rfl)
      refine .inl ⟨wanted_none rfl, ?_⟩
      generalize hev : Act.eval _ = ev
      have ec : ∀ c, ev (.const c) = c := fun c => by rw [← hev]; rfl
      have e50 : ev (.tmp 50) = .tuple #[.int .i64 (ix : Int), .bool true] := by rw [← hev]; exact (eval_put (by kernel_rfl) 116 rfl (by decide)).trans q6
      clear hev hd q6
      exact .inl ⟨_, W, by go_simp, rfl, Below.refl _ _⟩
    · obtain rfl := Option.some.inj hoo
      have q6 : uu 6 = .tuple #[.int .i64 (ix : Int), .bool true] := hd 6 (by kernel_rfl)
      refine .inl ⟨wanted_none rfl, ?_⟩
      generalize hev : Act.eval _ = ev
      have ec : ∀ c, ev (.const c) = c := fun c => by rw [← hev]; rfl
      have e50 : ev (.tmp 50) = .tuple #[.int .i64 (ix : Int), .bool true] := by rw [← hev]; exact (eval_put (by kernel_rfl) 116 rfl (by decide)).trans q6
      clear hev hd q6
      exact .inl ⟨_, W, by go_simp, rfl, Below.refl _ _⟩
    · obtain rfl := Option.some.inj hoo
      have q7 : uu 7 = .int .i64 (ix : Int) := hd 7 (by kernel_rfl)
      refine .inl ⟨wanted_none rfl, ?_⟩
      generalize hev : Act.eval _ = ev
      have ec : ∀ c, ev (.const c) = c := fun c => by rw [← hev]; rfl
      have e57 : ev (.tmp 57) = .int .i64 (ix : Int) := by rw [← hev]; exact (eval_put (by kernel_rfl) 116 rfl (by decide)).trans q7
      clear hev hd q7
      exact .inl ⟨_, W, by go_simp, rfl, Below.refl _ _⟩
    · obtain rfl := Option.some.inj hoo
      have q8 : uu 8 = .bool true := hd 8 (by kernel_rfl)
      refine .inl ⟨wanted_none rfl, ?_⟩
      generalize hev : Act.eval _ = ev
      have ec : ∀ c, ev (.const c) = c := fun c => by rw [← hev]; rfl
      have e58 : ev (.tmp 58) = .bool true := by rw [← hev]; exact (eval_put (by kernel_rfl) 116 rfl (by decide)).trans q8
      clear hev hd q8
      exact .inl ⟨_, W, by go_simp, rfl, Below.refl _ _⟩
    · simp at hoo
  · intro uu W hVW hall
    replace hB := hB.trans (hVW.mono hB.size)
    replace KF := KF.next hVW
    replace KG := KG.next hVW
    replace KO := KO.next hVW
    replace KA := KA.next hVW
    replace rL := rL.next hVW
    clear HFR HA2 KS KX
    obtain ⟨o0, o1, o2, o3, o4, o5, o6, o7, o8, o9, -⟩ := KO.get10
    have q9 : uu 9 = .int .i64 (ix : Int) := hall 9 (by decide)
    have q10 : uu 10 = .bool true := hall 10 (by decide)
    simp only [putAll, Act.put, Nat.reduceAdd, q9, q10]
    simp only [List.setIfInBounds_toArray, List.set_cons_succ, List.set_cons_zero]
    generalize W = V5 at *
    clear hall hVW q9 q10
    go_wp2_with fail
    refine (HRS _).out.mono ?_
    rintro e w5 ⟨rfl, hb⟩
    replace hB := bnext hB hb
    replace KF := KF.next hb
    replace KG := KG.next hb
    replace KO := KO.next hb
    replace KA := KA.next hb
    replace rL := rL.next hb
    clear hb HRS o0 o1 o2 o3 o4 o5 o6 o7 o8 o9
    obtain ⟨f0, f1, f2, f3, f4, -⟩ := KF.get5
    obtain ⟨a0, a1, a2, a3, a4, a5, a6, a7, a8, a9, -⟩ := KA.get10
    go_wp2_with fail
    refine (HOP _).out.mono ?_
    rintro e w6 ⟨rfl, hb⟩
    replace hB := bnextA (bnext hB hb) (.cells #[.int .u32 (s.toNat : Int), .int .u32 (d.toNat : Int), .int .u16 (p.toNat : Int), .int .u16 (q.toNat : Int), .int .u8 (r.toNat : Int), .int .i64 1, .int .i64 1, .int .i64 0, .bool true, .bool false, .int .u16 2, .int .u32 (vv.toNat : Int), .int .u32 (sq.toNat : Int)] 55)
    replace KG := (KG.next hb).alloc (.cells #[.int .u32 (s.toNat : Int), .int .u32 (d.toNat : Int), .int .u16 (p.toNat : Int), .int .u16 (q.toNat : Int), .int .u8 (r.toNat : Int), .int .i64 1, .int .i64 1, .int .i64 0, .bool true, .bool false, .int .u16 2, .int .u32 (vv.toNat : Int), .int .u32 (sq.toNat : Int)] 55)
    replace KO := (KO.next hb).alloc (.cells #[.int .u32 (s.toNat : Int), .int .u32 (d.toNat : Int), .int .u16 (p.toNat : Int), .int .u16 (q.toNat : Int), .int .u8 (r.toNat : Int), .int .i64 1, .int .i64 1, .int .i64 0, .bool true, .bool false, .int .u16 2, .int .u32 (vv.toNat : Int), .int .u32 (sq.toNat : Int)] 55)
    replace rL := (rL.next hb).nextA (.cells #[.int .u32 (s.toNat : Int), .int .u32 (d.toNat : Int), .int .u16 (p.toNat : Int), .int .u16 (q.toNat : Int), .int .u8 (r.toNat : Int), .int .i64 1, .int .i64 1, .int .i64 0, .bool true, .bool false, .int .u16 2, .int .u32 (vv.toNat : Int), .int .u32 (sq.toNat : Int)] 55)
    have KE := Blk.new w6 #[.int .u32 (s.toNat : Int), .int .u32 (d.toNat : Int), .int .u16 (p.toNat : Int), .int .u16 (q.toNat : Int), .int .u8 (r.toNat : Int), .int .i64 1, .int .i64 1, .int .i64 0, .bool true, .bool false, .int .u16 2, .int .u32 (vv.toNat : Int), .int .u32 (sq.toNat : Int)] 55
    clear hb HOP KF KA f0 f1 f2 f3 f4 a0 a1 a2 a3 a4 a5 a6 a7 a8 a9
    obtain ⟨o0, o1, o2, o3, o4, o5, o6, o7, o8, o9, -⟩ := KO.get10
    have y11 : (w6.alloc (.cells #[.int .u32 (s.toNat : Int), .int .u32 (d.toNat : Int), .int .u16 (p.toNat : Int), .int .u16 (q.toNat : Int), .int .u8 (r.toNat : Int), .int .i64 1, .int .i64 1, .int .i64 0, .bool true, .bool false, .int .u16 2, .int .u32 (vv.toNat : Int), .int .u32 (sq.toNat : Int)] 55)).cell? ⟨w6.heap.size, 11, none⟩ = some (.int .u32 (vv.toNat : Int)) := KE.cell 11
    have y12 : (w6.alloc (.cells #[.int .u32 (s.toNat : Int), .int .u32 (d.toNat : Int), .int .u16 (p.toNat : Int), .int .u16 (q.toNat : Int), .int .u8 (r.toNat : Int), .int .i64 1, .int .i64 1, .int .i64 0, .bool true, .bool false, .int .u16 2, .int .u32 (vv.toNat : Int), .int .u32 (sq.toNat : Int)] 55)).cell? ⟨w6.heap.size, 12, none⟩ = some (.int .u32 (sq.toNat : Int)) := KE.cell 12
    have g2 : (w6.alloc (.cells #[.int .u32 (s.toNat : Int), .int .u32 (d.toNat : Int), .int .u16 (p.toNat : Int), .int .u16 (q.toNat : Int), .int .u8 (r.toNat : Int), .int .i64 1, .int .i64 1, .int .i64 0, .bool true, .bool false, .int .u16 2, .int .u32 (vv.toNat : Int), .int .u32 (sq.toNat : Int)] 55)).cell? ⟨w.heap.size + 2, 2, none⟩ = some (.int .u32 (sq.toNat : Int)) := KG.cell 2
    obtain ⟨bl, off, hA, -, hcl⟩ := byt_at rL (k := 2) (by rw [hl4.out]; decide)
    subst hA
    obtain ⟨t2, t3⟩ := HT _ HL.out
    have c2 := hcl 2 (by rw [hl4.out]; decide)
    have c3 := hcl 3 (by rw [hl4.out]; decide)
    rw [t2] at c2
    rw [t3] at c3
    have z2 := hz2.out
    have z3 := hz3.out
    clear hcl rL KG KO KE t2 t3
    go_wp2_with fail
    refine (lives38_any _ (hS.next hB)).mono ?_
    rintro e w7 ⟨rfl, hb⟩
    replace hB := bnext hB hb
    go_wp2_with fail
    go_ret
    exact ⟨rfl, hB⟩
theorem ProxyAnswers_walk (a0_0_0 : Int) (a0_0_1 : Int) (a0_1_0 : Int) (a0_1_1 : Int) (a0_2 : Int) (a1_0 : Int) (a1_1 : Int) (a1_2 : Int) (a1_3 : Int) (a1_4 : Int) (a2_0 : Int) (a2_1 : Int) (a2_2 : Int) (a2_3 : Int) (a2_4 : Int) (a2_5 : Int) (a2_6 : Int) (a2_7 : Int) (a2_8 : Option Addr) (len2_8 cap2_8 : Nat) (z2_8 : List Int) (a2_9 : Option Addr) (len2_9 cap2_9 : Nat) (z2_9 : List Int) (a3_0 : Int) (a3_1 : Int) (w : World) (w0_0_0 : (Lit.int .u64 a0_0_0).wf = true) (w0_0_1 : (Lit.int .u64 a0_0_1).wf = true) (w0_1_0 : (Lit.int .u64 a0_1_0).wf = true) (w0_1_1 : (Lit.int .u64 a0_1_1).wf = true) (w0_2 : (Lit.int .i64 a0_2).wf = true) (w1_0 : (Lit.int .u32 a1_0).wf = true) (w1_1 : (Lit.int .u32 a1_1).wf = true) (w1_2 : (Lit.int .u16 a1_2).wf = true) (w1_3 : (Lit.int .u16 a1_3).wf = true) (w1_4 : (Lit.int .u8 a1_4).wf = true) (w2_0 : (Lit.int .u16 a2_0).wf = true) (w2_1 : (Lit.int .u16 a2_1).wf = true) (w2_2 : (Lit.int .u32 a2_2).wf = true) (w2_3 : (Lit.int .u32 a2_3).wf = true) (w2_4 : (Lit.int .u8 a2_4).wf = true) (w2_5 : (Lit.int .u8 a2_5).wf = true) (w2_6 : (Lit.int .u16 a2_6).wf = true) (w2_7 : (Lit.int .u16 a2_7).wf = true) (w2_8 : InRow .u8 w a2_8 len2_8 cap2_8 z2_8) (w2_9 : InRow .u8 w a2_9 len2_9 cap2_9 z2_9) (w3_0 : (Lit.int .u64 a3_0).wf = true) (w3_1 : (Lit.int .u64 a3_1).wf = true) (hS : SZ w) :
    Calls Tryd.prog 8 #[.agg #[.int .u64 a0_0_0, .int .u64 a0_0_1, .int .u64 a0_1_0, .int .u64 a0_1_1, .int .i64 a0_2], .agg #[.int .u32 a1_0, .int .u32 a1_1, .int .u16 a1_2, .int .u16 a1_3, .int .u8 a1_4], .agg #[.int .u16 a2_0, .int .u16 a2_1, .int .u32 a2_2, .int .u32 a2_3, .int .u8 a2_4, .int .u8 a2_5, .int .u16 a2_6, .int .u16 a2_7, .slice a2_8 len2_8 cap2_8, .slice a2_9 len2_9 cap2_9], .agg #[.int .u64 a3_0, .int .u64 a3_1]] w fun e w' => e = .returned (.bool true) ∧ Below w.heap.size w w' := by
  obtain ⟨lo, rfl, hlo⟩ := u64_nat w0_0_0
  obtain ⟨hi, rfl, hhi⟩ := u64_nat w0_0_1
  obtain ⟨lo2, rfl, hlo2⟩ := u64_nat w0_1_0
  obtain ⟨hi2, rfl, hhi2⟩ := u64_nat w0_1_1
  obtain ⟨s, rfl⟩ := u32_of w1_0
  obtain ⟨d, rfl⟩ := u32_of w1_1
  obtain ⟨p, rfl⟩ := u16_of w1_2
  obtain ⟨q, rfl⟩ := u16_of w1_3
  obtain ⟨r, rfl⟩ := u8_of w1_4
  obtain ⟨sa, rfl⟩ := u16_of w2_0
  obtain ⟨sb, rfl⟩ := u16_of w2_1
  obtain ⟨sq, rfl⟩ := u32_of w2_2
  obtain ⟨sk, rfl⟩ := u32_of w2_3
  obtain ⟨sr, rfl⟩ := u8_of w2_4
  obtain ⟨sf, rfl⟩ := u8_of w2_5
  obtain ⟨sz, rfl⟩ := u16_of w2_6
  obtain ⟨su, rfl⟩ := u16_of w2_7
  obtain ⟨x0, rfl, hx0⟩ := u64_nat w3_0
  obtain ⟨x1, rfl, hx1⟩ := u64_nat w3_1
  obtain ⟨os, hol, ho0, hlc, hcc, hm⟩ := few_len w2_8 50
  obtain ⟨xs, hxl, hx0', hlc2, hcc2, hm2⟩ := few_len w2_9 200
  by_cases h0 : a0_2 < 0
  · exact ProxyAnswers_lo lo hi lo2 hi2 hlo hhi hlo2 hhi2 a0_2 s d p q r sa sb sq sk sr sf sz su a2_8 a2_9 len2_8 cap2_8 len2_9 cap2_9 x0 x1 h0 w hS
  · by_cases h9 : 1073741823 < a0_2
    · exact ProxyAnswers_hi lo hi lo2 hi2 hlo hhi hlo2 hhi2 a0_2 s d p q r sa sb sq sk sr sf sz su a2_8 a2_9 len2_8 cap2_8 len2_9 cap2_9 x0 x1 h0 h9 w hS
    · exact ProxyAnswers_ok lo hi lo2 hi2 hlo hhi hlo2 hhi2 a0_2 s d p q r sa sb sq sk sr sf sz su a2_8 a2_9 len2_8 cap2_8 len2_9 cap2_9 x0 x1 (by omega) (by omega) hx0 hx1 os xs hol w hS ho0 hlc hcc hlc2 hcc2 hm hm2
end Go.Proofs.YteodjajjlgekcaaDoor
