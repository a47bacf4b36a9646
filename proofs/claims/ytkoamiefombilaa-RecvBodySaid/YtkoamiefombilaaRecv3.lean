/- Both sides of the three Parses. -/
import Derived.Test.YtkoamiefombilaaRecv1
import Derived.Test.YtkoamiefombilaaUdp5
import Derived.Test.YtkoamiefombilaaTcp5
namespace Go.Proofs.Ytkoamiefombilaa
open Go.RowKit

theorem r_u16 (xs : List UInt8) (k : Nat) (h : k + 2 ≤ xs.length) : ∃ a : UInt16, beN ((xs.drop k).take 2) = a.toNat := by
  refine ⟨UInt16.ofNat (beN ((xs.drop k).take 2)), ?_⟩
  rw [UInt16.ofNat_id]
  rw [take_two xs k h, beN_two]
  have := (xs[k]).toNat_lt
  have := (xs[k + 1]).toNat_lt
  omega
theorem r_u32 (xs : List UInt8) (k : Nat) : ∃ a : UInt32, beN ((xs.drop k).take 4) = a.toNat := by
  refine ⟨UInt32.ofNat (beN ((xs.drop k).take 4)), ?_⟩
  have := beN_lt ((xs.drop k).take 4)
  simp
  omega

set_option maxHeartbeats 2000000 in
theorem icmp_both (xs : List UInt8) (hxl : xs.length ≤ 65535) : ∃ (ty co : UInt8) (re : UInt32) (Q1 : List UInt8) (er : Int), (0 ≤ er ∧ er ≤ 5) ∧
    (∀ A c W, Rd bv W W.heap.size A c xs → Calls Try.prog 57 #[.slice A xs.length c] W fun e w' => ∃ (L1 : List UInt8) (A1 : Option Addr) (c1 : Nat), e = .returned (.tuple #[.agg #[.int .u8 (ty.toNat : Int), .int .u8 (co.toNat : Int), .int .u32 (re.toNat : Int), .slice A1 L1.length c1], .int .i64 er]) ∧ Hid (L1 = Q1) ∧ Rd bv w' w'.heap.size A1 c1 L1 ∧ Below W.heap.size W w') ∧
    (∀ A c W, Rd bv W W.heap.size A c xs → Calls Try.prog 19 #[.slice A xs.length c] W fun e w' => ∃ (L1 : List UInt8) (A1 : Option Addr) (c1 : Nat), e = .returned (.tuple #[.agg #[.int .u8 (ty.toNat : Int), .int .u8 (co.toNat : Int), .int .u32 (re.toNat : Int), .slice A1 L1.length c1], .int .i64 er]) ∧ Hid (L1 = Q1) ∧ Rd bv w' w'.heap.size A1 c1 L1 ∧ Below W.heap.size W w') := by
  by_cases h8 : xs.length < 8
  · refine ⟨0, 0, 0, [], 4, by omega, fun A c W h => ?_, fun A c W h => ?_⟩
    · exact (iparse_short A c xs W h h8).mono fun e w' ⟨he, hb⟩ => by subst he; exact ⟨[], none, 0, rfl, rfl, Rd.nil0 _ _ _, hb⟩
    · exact (riparse_short A c xs W h h8).mono fun e w' ⟨he, hb⟩ => by subst he; exact ⟨[], none, 0, rfl, rfl, Rd.nil0 _ _ _, hb⟩
  by_cases hN : onesN xs = 65535
  · obtain ⟨re, hre⟩ := r_u32 xs 4
    refine ⟨xs[0], xs[1], re, xs.drop 8, 0, by omega, fun A c W h => ?_, fun A c W h => ?_⟩
    · have := iparse_ok A c xs W h (by omega) (by omega) hN
      rw [hre] at this
      exact this
    · have := riparse_ok A c xs W h (by omega) (by omega) hN
      rw [hre] at this
      exact this
  · refine ⟨0, 0, 0, [], 5, by omega, fun A c W h => ?_, fun A c W h => ?_⟩
    · exact (iparse_sum A c xs W h (by omega) (by omega) hN).mono fun e w' ⟨he, hb⟩ => by subst he; exact ⟨[], none, 0, rfl, rfl, Rd.nil0 _ _ _, hb⟩
    · exact (riparse_sum A c xs W h (by omega) (by omega) hN).mono fun e w' ⟨he, hb⟩ => by subst he; exact ⟨[], none, 0, rfl, rfl, Rd.nil0 _ _ _, hb⟩

set_option maxHeartbeats 2000000 in
theorem dg_both (s d : UInt32) (xs : List UInt8) (hxl : xs.length ≤ 65535) : ∃ (a b : UInt16) (g : Bool) (Q1 : List UInt8) (er : Int), (0 ≤ er ∧ er ≤ 5) ∧
    (∀ A c W, Rd bv W W.heap.size A c xs → Calls Try.prog 59 #[.int .u32 (s.toNat : Int), .int .u32 (d.toNat : Int), .slice A xs.length c] W fun e w' => ∃ (L1 : List UInt8) (A1 : Option Addr) (c1 : Nat), e = .returned (.tuple #[.agg #[.int .u16 (a.toNat : Int), .int .u16 (b.toNat : Int), .bool g, .slice A1 L1.length c1], .int .i64 er]) ∧ Hid (L1 = Q1) ∧ Rd bv w' w'.heap.size A1 c1 L1 ∧ Below W.heap.size W w') ∧
    (∀ A c W, Rd bv W W.heap.size A c xs → Calls Try.prog 24 #[.int .u32 (s.toNat : Int), .int .u32 (d.toNat : Int), .slice A xs.length c] W fun e w' => ∃ (L1 : List UInt8) (A1 : Option Addr) (c1 : Nat), e = .returned (.tuple #[.agg #[.int .u16 (a.toNat : Int), .int .u16 (b.toNat : Int), .bool g, .slice A1 L1.length c1], .int .i64 er]) ∧ Hid (L1 = Q1) ∧ Rd bv w' w'.heap.size A1 c1 L1 ∧ Below W.heap.size W w') := by
  by_cases h8 : xs.length < 8
  · refine ⟨0, 0, false, [], 4, by omega, fun A c W h => ?_, fun A c W h => ?_⟩
    · exact (uparse_short s d A c xs W h h8).mono fun e w' ⟨he, hb⟩ => by subst he; exact ⟨[], none, 0, rfl, rfl, Rd.nil0 _ _ _, hb⟩
    · exact (ruparse_short s d A c xs W h h8).mono fun e w' ⟨he, hb⟩ => by subst he; exact ⟨[], none, 0, rfl, rfl, Rd.nil0 _ _ _, hb⟩
  obtain ⟨n, hn⟩ : ∃ n, beN ((xs.drop 4).take 2) = n := ⟨_, rfl⟩
  by_cases hn8 : n < 8
  · refine ⟨0, 0, false, [], 3, by omega, fun A c W h => ?_, fun A c W h => ?_⟩
    · exact (uparse_form s d A c xs W h (by omega) n hn hn8).mono fun e w' ⟨he, hb⟩ => by subst he; exact ⟨[], none, 0, rfl, rfl, Rd.nil0 _ _ _, hb⟩
    · exact (ruparse_form s d A c xs W h (by omega) n hn hn8).mono fun e w' ⟨he, hb⟩ => by subst he; exact ⟨[], none, 0, rfl, rfl, Rd.nil0 _ _ _, hb⟩
  by_cases hnl : xs.length < n
  · refine ⟨0, 0, false, [], 4, by omega, fun A c W h => ?_, fun A c W h => ?_⟩
    · exact (uparse_long s d A c xs W h (by omega) n hn (by omega) hnl).mono fun e w' ⟨he, hb⟩ => by subst he; exact ⟨[], none, 0, rfl, rfl, Rd.nil0 _ _ _, hb⟩
    · exact (ruparse_long s d A c xs W h (by omega) n hn (by omega) hnl).mono fun e w' ⟨he, hb⟩ => by subst he; exact ⟨[], none, 0, rfl, rfl, Rd.nil0 _ _ _, hb⟩
  obtain ⟨ts, hts⟩ : ∃ ts, xs.take n = ts := ⟨_, rfl⟩
  have hnt : n = ts.length := by rw [← hts]; simp; omega
  subst hnt
  obtain ⟨t, ht⟩ : ∃ t, beN ((xs.drop 6).take 2) = t := ⟨_, rfl⟩
  obtain ⟨a, ha⟩ := r_u16 xs 0 (by omega)
  obtain ⟨b, hb⟩ := r_u16 xs 2 (by omega)
  by_cases ht0 : t = 0
  · exact ⟨a, b, true, (xs.drop 8).take (ts.length - 8), 0, by omega, fun A c W h => uparse_bare s d A c xs ts W h (by omega) (by omega) hn (by omega) (by omega) hts t ht ht0 _ _ ha hb, fun A c W h => ruparse_bare s d A c xs ts W h (by omega) (by omega) hn (by omega) (by omega) hts t ht ht0 _ _ ha hb⟩
  by_cases hN : onesN (uh s d 17 ts.length ++ ts) = 65535
  · exact ⟨a, b, false, (xs.drop 8).take (ts.length - 8), 0, by omega, fun A c W h => uparse_full s d A c xs ts W h (by omega) (by omega) hn (by omega) (by omega) hts t ht ht0 hN _ _ ha hb, fun A c W h => ruparse_full s d A c xs ts W h (by omega) (by omega) hn (by omega) (by omega) hts t ht ht0 hN _ _ ha hb⟩
  · refine ⟨0, 0, false, [], 5, by omega, fun A c W h => ?_, fun A c W h => ?_⟩
    · exact (uparse_sum s d A c xs ts W h (by omega) (by omega) hn (by omega) (by omega) hts t ht ht0 hN).mono fun e w' ⟨he, hb⟩ => by subst he; exact ⟨[], none, 0, rfl, rfl, Rd.nil0 _ _ _, hb⟩
    · exact (ruparse_sum s d A c xs ts W h (by omega) (by omega) hn (by omega) (by omega) hts t ht ht0 hN).mono fun e w' ⟨he, hb⟩ => by subst he; exact ⟨[], none, 0, rfl, rfl, Rd.nil0 _ _ _, hb⟩

set_option maxHeartbeats 2000000 in
theorem sg_both (s d : UInt32) (xs : List UInt8) (hxl : xs.length ≤ 65535) : ∃ (sa sb : UInt16) (sq sk : UInt32) (sr sf : UInt8) (sz su : UInt16) (Q1 Q2 : List UInt8) (er : Int), (0 ≤ er ∧ er ≤ 5) ∧
    (∀ A c W, Rd bv W W.heap.size A c xs → Calls Try.prog 60 #[.int .u32 (s.toNat : Int), .int .u32 (d.toNat : Int), .slice A xs.length c] W fun e w' => ∃ (L1 : List UInt8) (A1 : Option Addr) (c1 : Nat) (L2 : List UInt8) (A2 : Option Addr) (c2 : Nat), e = .returned (.tuple #[.agg #[.int .u16 (sa.toNat : Int), .int .u16 (sb.toNat : Int), .int .u32 (sq.toNat : Int), .int .u32 (sk.toNat : Int), .int .u8 (sr.toNat : Int), .int .u8 (sf.toNat : Int), .int .u16 (sz.toNat : Int), .int .u16 (su.toNat : Int), .slice A1 L1.length c1, .slice A2 L2.length c2], .int .i64 er]) ∧ Hid (L1 = Q1) ∧ Rd bv w' w'.heap.size A1 c1 L1 ∧ Hid (L2 = Q2) ∧ Rd bv w' w'.heap.size A2 c2 L2 ∧ Below W.heap.size W w') ∧
    (∀ A c W, Rd bv W W.heap.size A c xs → Calls Try.prog 27 #[.int .u32 (s.toNat : Int), .int .u32 (d.toNat : Int), .slice A xs.length c] W fun e w' => ∃ (L1 : List UInt8) (A1 : Option Addr) (c1 : Nat) (L2 : List UInt8) (A2 : Option Addr) (c2 : Nat), e = .returned (.tuple #[.agg #[.int .u16 (sa.toNat : Int), .int .u16 (sb.toNat : Int), .int .u32 (sq.toNat : Int), .int .u32 (sk.toNat : Int), .int .u8 (sr.toNat : Int), .int .u8 (sf.toNat : Int), .int .u16 (sz.toNat : Int), .int .u16 (su.toNat : Int), .slice A1 L1.length c1, .slice A2 L2.length c2], .int .i64 er]) ∧ Hid (L1 = Q1) ∧ Rd bv w' w'.heap.size A1 c1 L1 ∧ Hid (L2 = Q2) ∧ Rd bv w' w'.heap.size A2 c2 L2 ∧ Below W.heap.size W w') := by
  by_cases h20 : xs.length < 20
  · refine ⟨0, 0, 0, 0, 0, 0, 0, 0, [], [], 4, by omega, fun A c W h => ?_, fun A c W h => ?_⟩
    · exact (tparse_short s d A c xs W h h20).mono fun e w' ⟨he, hb⟩ => by subst he; exact ⟨[], none, 0, [], none, 0, rfl, rfl, Rd.nil0 _ _ _, rfl, Rd.nil0 _ _ _, hb⟩
    · exact (rtparse_short s d A c xs W h h20).mono fun e w' ⟨he, hb⟩ => by subst he; exact ⟨[], none, 0, [], none, 0, rfl, rfl, Rd.nil0 _ _ _, rfl, Rd.nil0 _ _ _, hb⟩
  have h20' : 20 ≤ xs.length := by omega
  by_cases hm : (xs[12]).toNat / 16 < 5
  · refine ⟨0, 0, 0, 0, 0, 0, 0, 0, [], [], 3, by omega, fun A c W h => ?_, fun A c W h => ?_⟩
    · exact (tparse_form0 s d A c xs W h h20' hm).mono fun e w' ⟨he, hb⟩ => by subst he; exact ⟨[], none, 0, [], none, 0, rfl, rfl, Rd.nil0 _ _ _, rfl, Rd.nil0 _ _ _, hb⟩
    · exact (rtparse_form0 s d A c xs W h h20' hm).mono fun e w' ⟨he, hb⟩ => by subst he; exact ⟨[], none, 0, [], none, 0, rfl, rfl, Rd.nil0 _ _ _, rfl, Rd.nil0 _ _ _, hb⟩
  have hm5 : 5 ≤ (xs[12]).toNat / 16 := by omega
  by_cases hl : xs.length < 4 * ((xs[12]).toNat / 16)
  · refine ⟨0, 0, 0, 0, 0, 0, 0, 0, [], [], 4, by omega, fun A c W h => ?_, fun A c W h => ?_⟩
    · exact (tparse_long s d A c xs W h h20' hm5 hxl hl).mono fun e w' ⟨he, hb⟩ => by subst he; exact ⟨[], none, 0, [], none, 0, rfl, rfl, Rd.nil0 _ _ _, rfl, Rd.nil0 _ _ _, hb⟩
    · exact (rtparse_long s d A c xs W h h20' hm5 hxl hl).mono fun e w' ⟨he, hb⟩ => by subst he; exact ⟨[], none, 0, [], none, 0, rfl, rfl, Rd.nil0 _ _ _, rfl, Rd.nil0 _ _ _, hb⟩
  by_cases hN : onesN (uh s d 6 xs.length ++ xs) = 65535
  · obtain ⟨a, ha0⟩ := r_u16 xs 0 (by omega)
    obtain ⟨b, hb0⟩ := r_u16 xs 2 (by omega)
    obtain ⟨q, hq0⟩ := r_u32 xs 4
    obtain ⟨k, hk0⟩ := r_u32 xs 8
    obtain ⟨z, hz0⟩ := r_u16 xs 14 (by omega)
    obtain ⟨u, hu0⟩ := r_u16 xs 18 (by omega)
    obtain ⟨r, hr0⟩ : ∃ r : UInt8, (xs[12]).toNat % 16 = r.toNat := ⟨UInt8.ofNat ((xs[12]).toNat % 16), by simp; omega⟩
    refine ⟨a, b, q, k, r, xs[13], z, u, (xs.drop 20).take (4 * ((xs[12]).toNat / 16) - 20), xs.drop (4 * ((xs[12]).toNat / 16)), 0, by omega, fun A c W h => ?_, fun A c W h => ?_⟩
    · exact (tparse_ok s d A c xs W h h20' _ rfl hm5 (by omega) (by omega) hN a b q k r (xs[13]) z u ha0 hb0 hq0 hk0 hr0 rfl hz0 hu0).mono fun e w' ⟨Lo, Ao, co, Lx, Ax, cx, he, HLo, HLx, ro, rx, hb⟩ => ⟨Lo, Ao, co, Lx, Ax, cx, he, HLo, ro, HLx, rx, hb⟩
    · exact (rtparse_ok s d A c xs W h h20' _ rfl hm5 (by omega) (by omega) hN a b q k r (xs[13]) z u ha0 hb0 hq0 hk0 hr0 rfl hz0 hu0).mono fun e w' ⟨Lo, Ao, co, Lx, Ax, cx, he, HLo, HLx, ro, rx, hb⟩ => ⟨Lo, Ao, co, Lx, Ax, cx, he, HLo, ro, HLx, rx, hb⟩
  · refine ⟨0, 0, 0, 0, 0, 0, 0, 0, [], [], 5, by omega, fun A c W h => ?_, fun A c W h => ?_⟩
    · exact (tparse_sum s d A c xs W h h20' hm5 hxl (by omega) hN).mono fun e w' ⟨he, hb⟩ => by subst he; exact ⟨[], none, 0, [], none, 0, rfl, rfl, Rd.nil0 _ _ _, rfl, Rd.nil0 _ _ _, hb⟩
    · exact (rtparse_sum s d A c xs W h h20' hm5 hxl (by omega) hN).mono fun e w' ⟨he, hb⟩ => by subst he; exact ⟨[], none, 0, [], none, 0, rfl, rfl, Rd.nil0 _ _ _, rfl, Rd.nil0 _ _ _, hb⟩

end Go.Proofs.Ytkoamiefombilaa
